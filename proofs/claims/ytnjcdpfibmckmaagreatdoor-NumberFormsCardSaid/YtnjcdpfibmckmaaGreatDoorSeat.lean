import Derived.Test.YtnjcdpfibmckmaaGreatDoorSeatTab
set_option linter.unusedSectionVars false
set_option linter.unusedVariables false
set_option linter.unusedSimpArgs false
namespace Go.Sx.Seat
open Go Go.Proofs
theorem o:True:=trivial
theorem ty0:tyI Tryz.prog 0=some t0:=by kernel_rfl
theorem ty1:tyI Tryz.prog 1=some t1:=by kernel_rfl
theorem ty2:tyI Tryz.prog 2=some t2:=by kernel_rfl
theorem ty3:tyI Tryz.prog 3=some t2:=by kernel_rfl
theorem ty4:tyI Tryz.prog 4=some t4:=by kernel_rfl
theorem ty5:tyI Tryz.prog 5=some t5:=by kernel_rfl
theorem ty6:tyI Tryz.prog 6=some t5:=by kernel_rfl
theorem ty7:tyI Tryz.prog 7=some t7:=by kernel_rfl
theorem ty8:tyI Tryz.prog 8=some t7:=by kernel_rfl
theorem ty9:tyI Tryz.prog 9=some t9:=by kernel_rfl
theorem ty10:tyI Tryz.prog 10=some t9:=by kernel_rfl
theorem ty11:tyI Tryz.prog 11=some t9:=by kernel_rfl
theorem ty12:tyI Tryz.prog 12=some t12:=by kernel_rfl
theorem ty13:tyI Tryz.prog 13=some t13:=by kernel_rfl
theorem ty14:tyI Tryz.prog 14=some t13:=by kernel_rfl
theorem ty15:tyI Tryz.prog 15=some t15:=by kernel_rfl
theorem ty16:tyI Tryz.prog 16=some t16:=by kernel_rfl
theorem ty17:tyI Tryz.prog 17=some t17:=by kernel_rfl
theorem ty18:tyI Tryz.prog 18=some t18:=by kernel_rfl
theorem ty19:tyI Tryz.prog 19=some t18:=by kernel_rfl
theorem ty20:tyI Tryz.prog 20=some t20:=by kernel_rfl
theorem ty21:tyI Tryz.prog 21=some t21:=by kernel_rfl
theorem ty22:tyI Tryz.prog 22=some t22:=by kernel_rfl
theorem ty23:tyI Tryz.prog 23=some t9:=by kernel_rfl
theorem ty24:tyI Tryz.prog 24=some t1:=by kernel_rfl
theorem ty25:tyI Tryz.prog 25=some t2:=by kernel_rfl
theorem ty26:tyI Tryz.prog 26=some t0:=by kernel_rfl
theorem ty27:tyI Tryz.prog 27=some t1:=by kernel_rfl
theorem ty28:tyI Tryz.prog 28=some t1:=by kernel_rfl
theorem ty29:tyI Tryz.prog 29=some t1:=by kernel_rfl
theorem ty30:tyI Tryz.prog 30=some t1:=by kernel_rfl
theorem ty31:tyI Tryz.prog 31=some t1:=by kernel_rfl
theorem ty32:tyI Tryz.prog 32=some t1:=by kernel_rfl
theorem ty33:tyI Tryz.prog 33=some t1:=by kernel_rfl
theorem ty34:tyI Tryz.prog 34=some t1:=by kernel_rfl
theorem ty35:tyI Tryz.prog 35=some t35:=by kernel_rfl
theorem ty36:tyI Tryz.prog 36=some t35:=by kernel_rfl
theorem ty37:tyI Tryz.prog 37=some t37:=by kernel_rfl
theorem ty38:tyI Tryz.prog 38=some t37:=by kernel_rfl
theorem ty39:tyI Tryz.prog 39=some t1:=by kernel_rfl
theorem ty40:tyI Tryz.prog 40=some t1:=by kernel_rfl
theorem ty41:tyI Tryz.prog 41=some t0:=by kernel_rfl
theorem ty42:tyI Tryz.prog 42=some t1:=by kernel_rfl
theorem ty43:tyI Tryz.prog 43=some t1:=by kernel_rfl
theorem ty44:tyI Tryz.prog 44=some t1:=by kernel_rfl
theorem ty45:tyI Tryz.prog 45=some t1:=by kernel_rfl
theorem ty46:tyI Tryz.prog 46=some t0:=by kernel_rfl
theorem ty47:tyI Tryz.prog 47=some t1:=by kernel_rfl
theorem ty48:tyI Tryz.prog 48=some t1:=by kernel_rfl
theorem ty49:tyI Tryz.prog 49=some t1:=by kernel_rfl
theorem ty50:tyI Tryz.prog 50=some t50:=by kernel_rfl
theorem ty51:tyI Tryz.prog 51=some t50:=by kernel_rfl
theorem ty52:tyI Tryz.prog 52=some t52:=by kernel_rfl
theorem ty53:tyI Tryz.prog 53=some t52:=by kernel_rfl
theorem ty54:tyI Tryz.prog 54=some t1:=by kernel_rfl
theorem ty55:tyI Tryz.prog 55=some t0:=by kernel_rfl
theorem ty56:tyI Tryz.prog 56=some t1:=by kernel_rfl
theorem ty57:tyI Tryz.prog 57=some t1:=by kernel_rfl
theorem ty58:tyI Tryz.prog 58=some t1:=by kernel_rfl
theorem ty59:tyI Tryz.prog 59=some t1:=by kernel_rfl
theorem ty60:tyI Tryz.prog 60=some t1:=by kernel_rfl
theorem ty61:tyI Tryz.prog 61=some t1:=by kernel_rfl
theorem ty62:tyI Tryz.prog 62=some t1:=by kernel_rfl
theorem ty63:tyI Tryz.prog 63=some t1:=by kernel_rfl
theorem ty64:tyI Tryz.prog 64=some t1:=by kernel_rfl
theorem ty65:tyI Tryz.prog 65=some t1:=by kernel_rfl
theorem ty66:tyI Tryz.prog 66=some t1:=by kernel_rfl
theorem ty67:tyI Tryz.prog 67=some t67:=by kernel_rfl
theorem ty68:tyI Tryz.prog 68=some t0:=by kernel_rfl
theorem ty69:tyI Tryz.prog 69=some t1:=by kernel_rfl
theorem ty70:tyI Tryz.prog 70=some t70:=by kernel_rfl
theorem ty71:tyI Tryz.prog 71=some t0:=by kernel_rfl
theorem ty72:tyI Tryz.prog 72=some t1:=by kernel_rfl
theorem ty73:tyI Tryz.prog 73=some t73:=by kernel_rfl
theorem ty74:tyI Tryz.prog 74=some t0:=by kernel_rfl
theorem ty75:tyI Tryz.prog 75=some t1:=by kernel_rfl
theorem ty76:tyI Tryz.prog 76=some t1:=by kernel_rfl
theorem ty77:tyI Tryz.prog 77=some t1:=by kernel_rfl
theorem ty78:tyI Tryz.prog 78=some t1:=by kernel_rfl
theorem ty79:tyI Tryz.prog 79=some t79:=by kernel_rfl
theorem ty80:tyI Tryz.prog 80=some t0:=by kernel_rfl
theorem ty81:tyI Tryz.prog 81=some t1:=by kernel_rfl
theorem ty82:tyI Tryz.prog 82=some t1:=by kernel_rfl
theorem ty83:tyI Tryz.prog 83=some t1:=by kernel_rfl
theorem ty84:tyI Tryz.prog 84=some t1:=by kernel_rfl
theorem ty85:tyI Tryz.prog 85=some t85:=by kernel_rfl
theorem ty86:tyI Tryz.prog 86=some t86:=by kernel_rfl
theorem ty87:tyI Tryz.prog 87=some t86:=by kernel_rfl
theorem ty88:tyI Tryz.prog 88=some t88:=by kernel_rfl
theorem ty89:tyI Tryz.prog 89=some t88:=by kernel_rfl
theorem ty90:tyI Tryz.prog 90=some t1:=by kernel_rfl
theorem ty91:tyI Tryz.prog 91=some t1:=by kernel_rfl
theorem ty92:tyI Tryz.prog 92=some t0:=by kernel_rfl
theorem ty93:tyI Tryz.prog 93=some t1:=by kernel_rfl
theorem ty94:tyI Tryz.prog 94=some t1:=by kernel_rfl
theorem ty95:tyI Tryz.prog 95=some t1:=by kernel_rfl
theorem ty96:tyI Tryz.prog 96=some t1:=by kernel_rfl
theorem ty97:tyI Tryz.prog 97=some t97:=by kernel_rfl
theorem ty98:tyI Tryz.prog 98=some t97:=by kernel_rfl
theorem ty99:tyI Tryz.prog 99=some t1:=by kernel_rfl
theorem Gf:tyI Tryz.prog 100=some t1:=by kernel_rfl
theorem Gg:tyI Tryz.prog 101=some t1:=by kernel_rfl
theorem Gh:tyI Tryz.prog 102=some t1:=by kernel_rfl
theorem Gi:tyI Tryz.prog 103=some t0:=by kernel_rfl
theorem Gj:tyI Tryz.prog 104=some t1:=by kernel_rfl
theorem Gk:tyI Tryz.prog 105=some t1:=by kernel_rfl
theorem Gl:tyI Tryz.prog 106=some t1:=by kernel_rfl
theorem Gm:tyI Tryz.prog 107=some t1:=by kernel_rfl
theorem Gn:tyI Tryz.prog 108=some t1:=by kernel_rfl
theorem Gp:tyI Tryz.prog 109=some t1:=by kernel_rfl
theorem Gq:tyI Tryz.prog 110=some t1:=by kernel_rfl
theorem Gr:tyI Tryz.prog 111=some t1:=by kernel_rfl
theorem Gs:tyI Tryz.prog 112=some t1:=by kernel_rfl
theorem Gt:tyI Tryz.prog 113=some t113:=by kernel_rfl
theorem Gu:tyI Tryz.prog 114=some t113:=by kernel_rfl
theorem Gv:tyI Tryz.prog 115=some t1:=by kernel_rfl
theorem Gw:tyI Tryz.prog 116=some t0:=by kernel_rfl
theorem Gz:tyI Tryz.prog 117=some t1:=by kernel_rfl
theorem GA:tyI Tryz.prog 118=some t0:=by kernel_rfl
theorem GB:tyI Tryz.prog 119=some t1:=by kernel_rfl
theorem GC:tyI Tryz.prog 120=some t1:=by kernel_rfl
theorem GD:tyI Tryz.prog 121=some t1:=by kernel_rfl
theorem GF:tyI Tryz.prog 122=some t1:=by kernel_rfl
theorem GG:tyI Tryz.prog 123=some t1:=by kernel_rfl
theorem GH:tyI Tryz.prog 124=some t1:=by kernel_rfl
theorem GI:tyI Tryz.prog 125=some t125:=by kernel_rfl
theorem GJ:tyI Tryz.prog 126=some t125:=by kernel_rfl
theorem GK:tyI Tryz.prog 127=some t0:=by kernel_rfl
theorem GL:tyI Tryz.prog 128=some t1:=by kernel_rfl
theorem GM:tyI Tryz.prog 129=some t1:=by kernel_rfl
theorem GN:tyI Tryz.prog 130=some t1:=by kernel_rfl
theorem GO:tyI Tryz.prog 131=some t1:=by kernel_rfl
theorem GP:tyI Tryz.prog 132=some t0:=by kernel_rfl
theorem GQ:tyI Tryz.prog 133=some t1:=by kernel_rfl
theorem GR:tyI Tryz.prog 134=some t1:=by kernel_rfl
theorem GS:tyI Tryz.prog 135=some t1:=by kernel_rfl
theorem GU:tyI Tryz.prog 136=some t1:=by kernel_rfl
theorem GV:tyI Tryz.prog 137=some t1:=by kernel_rfl
theorem GW:tyI Tryz.prog 138=some t1:=by kernel_rfl
theorem GX:tyI Tryz.prog 139=some t1:=by kernel_rfl
theorem GY:tyI Tryz.prog 140=some t1:=by kernel_rfl
theorem GZ:tyI Tryz.prog 141=some t1:=by kernel_rfl
theorem H3:tyI Tryz.prog 142=some t1:=by kernel_rfl
theorem H4:tyI Tryz.prog 143=some t1:=by kernel_rfl
theorem H5:tyI Tryz.prog 144=some t1:=by kernel_rfl
theorem H6:tyI Tryz.prog 145=some t145:=by kernel_rfl
theorem H7:tyI Tryz.prog 146=some t0:=by kernel_rfl
theorem H8:tyI Tryz.prog 147=some t1:=by kernel_rfl
theorem H9:tyI Tryz.prog 148=some t148:=by kernel_rfl
theorem Hc:tyI Tryz.prog 149=some t1:=by kernel_rfl
theorem Hi:tyI Tryz.prog 150=some t1:=by kernel_rfl
theorem Hj:tyI Tryz.prog 151=some t1:=by kernel_rfl
theorem Hv:tyI Tryz.prog 152=some t1:=by kernel_rfl
theorem Hw:tyI Tryz.prog 153=some t1:=by kernel_rfl
theorem Hy:tyI Tryz.prog 154=some t1:=by kernel_rfl
theorem HK:tyI Tryz.prog 155=some t0:=by kernel_rfl
theorem I0:tyI Tryz.prog 156=some t1:=by kernel_rfl
theorem I3:tyI Tryz.prog 157=some t0:=by kernel_rfl
theorem I4:tyI Tryz.prog 158=some t1:=by kernel_rfl
theorem I5:tyI Tryz.prog 159=some t1:=by kernel_rfl
theorem I6:tyI Tryz.prog 160=some t0:=by kernel_rfl
theorem I7:tyI Tryz.prog 161=some t1:=by kernel_rfl
theorem I8:tyI Tryz.prog 162=some t162:=by kernel_rfl
theorem I9:tyI Tryz.prog 163=some t163:=by kernel_rfl
theorem Ia:tyI Tryz.prog 164=some t163:=by kernel_rfl
theorem Ib:tyI Tryz.prog 165=some t1:=by kernel_rfl
theorem Ic:tyI Tryz.prog 166=some t1:=by kernel_rfl
theorem Ie:tyI Tryz.prog 167=some t0:=by kernel_rfl
theorem Ig:tyI Tryz.prog 168=some t1:=by kernel_rfl
theorem Ih:tyI Tryz.prog 169=some t0:=by kernel_rfl
theorem Ii:tyI Tryz.prog 170=some t1:=by kernel_rfl
theorem Ij:tyI Tryz.prog 171=some t1:=by kernel_rfl
theorem Ik:tyI Tryz.prog 172=some t0:=by kernel_rfl
theorem Il:tyI Tryz.prog 173=some t1:=by kernel_rfl
theorem Im:tyI Tryz.prog 174=some t1:=by kernel_rfl
theorem Io:tyI Tryz.prog 175=some t1:=by kernel_rfl
theorem Ip:tyI Tryz.prog 176=some t0:=by kernel_rfl
theorem Iq:tyI Tryz.prog 177=some t1:=by kernel_rfl
theorem Ir:tyI Tryz.prog 178=some t1:=by kernel_rfl
theorem Is:tyI Tryz.prog 179=some t1:=by kernel_rfl
theorem It:tyI Tryz.prog 180=some t1:=by kernel_rfl
theorem Iu:tyI Tryz.prog 181=some t1:=by kernel_rfl
theorem Iv:tyI Tryz.prog 182=some t1:=by kernel_rfl
theorem Iw:tyI Tryz.prog 183=some t1:=by kernel_rfl
theorem Ix:tyI Tryz.prog 184=some t0:=by kernel_rfl
theorem Iy:tyI Tryz.prog 185=some t1:=by kernel_rfl
theorem Iz:tyI Tryz.prog 186=some t186:=by kernel_rfl
theorem IA:tyI Tryz.prog 187=some t1:=by kernel_rfl
theorem IB:tyI Tryz.prog 188=some t1:=by kernel_rfl
theorem IC:tyI Tryz.prog 189=some t0:=by kernel_rfl
theorem ID:tyI Tryz.prog 190=some t1:=by kernel_rfl
theorem IE:tyI Tryz.prog 191=some t0:=by kernel_rfl
theorem IF:tyI Tryz.prog 192=some t1:=by kernel_rfl
theorem IG:tyI Tryz.prog 193=some t193:=by kernel_rfl
theorem IH:tyI Tryz.prog 194=some t88:=by kernel_rfl
theorem II:tyI Tryz.prog 195=some t88:=by kernel_rfl
theorem IJ:tyI Tryz.prog 196=some t1:=by kernel_rfl
theorem IK:tyI Tryz.prog 197=some t1:=by kernel_rfl
theorem IL:tyI Tryz.prog 198=some t1:=by kernel_rfl
theorem IM:tyI Tryz.prog 199=some t1:=by kernel_rfl
theorem IN:tyI Tryz.prog 200=some t1:=by kernel_rfl
theorem IP:tyI Tryz.prog 201=some t1:=by kernel_rfl
theorem IQ:tyI Tryz.prog 202=some t1:=by kernel_rfl
theorem IS:tyI Tryz.prog 203=some t0:=by kernel_rfl
theorem IT:tyI Tryz.prog 204=some t1:=by kernel_rfl
theorem IU:tyI Tryz.prog 205=some t1:=by kernel_rfl
theorem IV:tyI Tryz.prog 206=some t1:=by kernel_rfl
theorem IW:tyI Tryz.prog 207=some t1:=by kernel_rfl
theorem IX:tyI Tryz.prog 208=some t0:=by kernel_rfl
theorem IY:tyI Tryz.prog 209=some t1:=by kernel_rfl
theorem IZ:tyI Tryz.prog 210=some t1:=by kernel_rfl
theorem J0:tyI Tryz.prog 211=some t1:=by kernel_rfl
theorem J1:tyI Tryz.prog 212=some t212:=by kernel_rfl
theorem J2:tyI Tryz.prog 213=some t1:=by kernel_rfl
theorem J3:tyI Tryz.prog 214=some t214:=by kernel_rfl
theorem J4:tyI Tryz.prog 215=some t1:=by kernel_rfl
theorem J5:tyI Tryz.prog 216=some t12:=by kernel_rfl
theorem J6:tyI Tryz.prog 217=some t217:=by kernel_rfl
theorem J7:tyI Tryz.prog 218=some t0:=by kernel_rfl
theorem J8:tyI Tryz.prog 219=some t219:=by kernel_rfl
theorem J9:tyI Tryz.prog 220=some t0:=by kernel_rfl
theorem Ja:tyI Tryz.prog 221=some t1:=by kernel_rfl
theorem Jb:tyI Tryz.prog 222=some t1:=by kernel_rfl
theorem Jc:tyI Tryz.prog 223=some t12:=by kernel_rfl
theorem Jd:tyI Tryz.prog 224=some t1:=by kernel_rfl
theorem Je:tyI Tryz.prog 225=some t1:=by kernel_rfl
theorem Jf:tyI Tryz.prog 226=some t1:=by kernel_rfl
theorem Jg:tyI Tryz.prog 227=some t1:=by kernel_rfl
theorem Jh:tyI Tryz.prog 228=some t0:=by kernel_rfl
theorem Ji:tyI Tryz.prog 229=some t1:=by kernel_rfl
theorem Jj:tyI Tryz.prog 230=some t0:=by kernel_rfl
theorem Jk:tyI Tryz.prog 231=some t1:=by kernel_rfl
theorem Jl:tyI Tryz.prog 232=some t1:=by kernel_rfl
theorem Jm:tyI Tryz.prog 233=some t0:=by kernel_rfl
theorem Jo:tyI Tryz.prog 234=some t1:=by kernel_rfl
theorem Jp:tyI Tryz.prog 235=some t1:=by kernel_rfl
theorem Jq:tyI Tryz.prog 236=some t1:=by kernel_rfl
theorem Jr:tyI Tryz.prog 237=some t1:=by kernel_rfl
theorem Js:tyI Tryz.prog 238=some t238:=by kernel_rfl
theorem Jt:tyI Tryz.prog 239=some t1:=by kernel_rfl
theorem Ju:tyI Tryz.prog 240=some t1:=by kernel_rfl
theorem Jv:tyI Tryz.prog 241=some t0:=by kernel_rfl
theorem Jw:tyI Tryz.prog 242=some t1:=by kernel_rfl
theorem Jx:tyI Tryz.prog 243=some t1:=by kernel_rfl
theorem Jy:tyI Tryz.prog 244=some t1:=by kernel_rfl
theorem Jz:tyI Tryz.prog 245=some t245:=by kernel_rfl
theorem JA:tyI Tryz.prog 246=some t1:=by kernel_rfl
theorem JB:tyI Tryz.prog 247=some t1:=by kernel_rfl
theorem JC:tyI Tryz.prog 248=some t1:=by kernel_rfl
theorem JD:tyI Tryz.prog 249=some t1:=by kernel_rfl
theorem JE:tyI Tryz.prog 250=some t1:=by kernel_rfl
theorem JF:tyI Tryz.prog 251=some t1:=by kernel_rfl
theorem JG:tyI Tryz.prog 252=some t252:=by kernel_rfl
theorem JH:tyI Tryz.prog 253=some t1:=by kernel_rfl
theorem JI:tyI Tryz.prog 254=some t254:=by kernel_rfl
theorem JJ:tyI Tryz.prog 255=some t1:=by kernel_rfl
theorem JK:tyI Tryz.prog 256=some t1:=by kernel_rfl
theorem JL:tyI Tryz.prog 257=some t1:=by kernel_rfl
theorem JM:tyI Tryz.prog 258=some t1:=by kernel_rfl
theorem JN:tyI Tryz.prog 259=some t1:=by kernel_rfl
theorem JO:tyI Tryz.prog 260=some t1:=by kernel_rfl
theorem JP:tyI Tryz.prog 261=some t261:=by kernel_rfl
theorem JQ:tyI Tryz.prog 262=some t261:=by kernel_rfl
theorem JR:tyI Tryz.prog 263=some t1:=by kernel_rfl
theorem JS:tyI Tryz.prog 264=some t1:=by kernel_rfl
theorem JT:tyI Tryz.prog 265=some t265:=by kernel_rfl
theorem JU:tyI Tryz.prog 266=some t266:=by kernel_rfl
theorem JV:tyI Tryz.prog 267=some t1:=by kernel_rfl
theorem JW:tyI Tryz.prog 268=some t1:=by kernel_rfl
theorem JX:tyI Tryz.prog 269=some t1:=by kernel_rfl
theorem JY:tyI Tryz.prog 270=some t1:=by kernel_rfl
theorem JZ:tyI Tryz.prog 271=some t0:=by kernel_rfl
theorem K0:tyI Tryz.prog 272=some t1:=by kernel_rfl
theorem K1:tyI Tryz.prog 273=some t1:=by kernel_rfl
theorem K2:tyI Tryz.prog 274=some t1:=by kernel_rfl
theorem K3:tyI Tryz.prog 275=some t1:=by kernel_rfl
theorem K4:tyI Tryz.prog 276=some t1:=by kernel_rfl
theorem K6:tyI Tryz.prog 277=some t0:=by kernel_rfl
theorem K7:tyI Tryz.prog 278=some t1:=by kernel_rfl
theorem K8:tyI Tryz.prog 279=some t279:=by kernel_rfl
theorem K9:tyI Tryz.prog 280=some t280:=by kernel_rfl
theorem Ka:tyI Tryz.prog 281=some t281:=by kernel_rfl
theorem Kb:tyI Tryz.prog 282=some t281:=by kernel_rfl
theorem Kc:tyI Tryz.prog 283=some t1:=by kernel_rfl
theorem Kd:tyI Tryz.prog 284=some t284:=by kernel_rfl
theorem Ke:tyI Tryz.prog 285=some t284:=by kernel_rfl
theorem Kf:tyI Tryz.prog 286=some t0:=by kernel_rfl
theorem Kg:tyI Tryz.prog 287=some t1:=by kernel_rfl
theorem Kh:tyI Tryz.prog 288=some t1:=by kernel_rfl
theorem Ki:tyI Tryz.prog 289=some t1:=by kernel_rfl
theorem Kj:tyI Tryz.prog 290=some t1:=by kernel_rfl
theorem Kk:tyI Tryz.prog 291=some t1:=by kernel_rfl
theorem Kl:tyI Tryz.prog 292=some t292:=by kernel_rfl
theorem Km:tyI Tryz.prog 293=some t1:=by kernel_rfl
theorem Kn:tyI Tryz.prog 294=some t0:=by kernel_rfl
theorem Ko:tyI Tryz.prog 295=some t1:=by kernel_rfl
theorem Kp:tyI Tryz.prog 296=some t0:=by kernel_rfl
theorem Kq:tyI Tryz.prog 297=some t1:=by kernel_rfl
theorem Kr:tyI Tryz.prog 298=some t298:=by kernel_rfl
theorem Ks:tyI Tryz.prog 299=some t1:=by kernel_rfl
theorem Kt:tyI Tryz.prog 300=some t1:=by kernel_rfl
theorem Ku:tyI Tryz.prog 301=some t301:=by kernel_rfl
theorem Kv:tyI Tryz.prog 302=some t302:=by kernel_rfl
theorem Kw:tyI Tryz.prog 303=some t1:=by kernel_rfl
theorem Kx:tyI Tryz.prog 304=some t1:=by kernel_rfl
theorem Ky:tyI Tryz.prog 305=some t305:=by kernel_rfl
theorem Kz:tyI Tryz.prog 306=some t1:=by kernel_rfl
theorem KA:tyI Tryz.prog 307=some t1:=by kernel_rfl
theorem KB:tyI Tryz.prog 308=some t1:=by kernel_rfl
theorem KC:tyI Tryz.prog 309=some t309:=by kernel_rfl
theorem KD:tyI Tryz.prog 310=some t310:=by kernel_rfl
theorem KE:tyI Tryz.prog 311=some t311:=by kernel_rfl
theorem KF:tyI Tryz.prog 312=some t312:=by kernel_rfl
theorem KG:tyI Tryz.prog 313=some t312:=by kernel_rfl
theorem KH:tyI Tryz.prog 314=some t314:=by kernel_rfl
theorem KJ:tyI Tryz.prog 315=some t315:=by kernel_rfl
theorem KK:tyI Tryz.prog 316=some t315:=by kernel_rfl
theorem KL:tyI Tryz.prog 317=some t5:=by kernel_rfl
theorem KM:tyI Tryz.prog 318=some t5:=by kernel_rfl
theorem KN:tyI Tryz.prog 319=some t1:=by kernel_rfl
theorem KO:tyI Tryz.prog 320=some t21:=by kernel_rfl
theorem KP:tyI Tryz.prog 321=some t21:=by kernel_rfl
theorem KQ:tyI Tryz.prog 322=some t322:=by kernel_rfl
theorem KR:tyI Tryz.prog 323=some t322:=by kernel_rfl
theorem KS:tyI Tryz.prog 324=some t324:=by kernel_rfl
theorem KT:tyI Tryz.prog 325=some t324:=by kernel_rfl
theorem C8:Tr.Fa (fun t ti=>tyI Tryz.prog t=some ti) tyT:=
 ⟨ty0,⟨ty1,⟨ty3,⟨ty7,⟨ty15,⟨ty31,⟨ty63,⟨GK,⟨JJ,o,o⟩,o⟩,⟨IE,⟨KN,o,o⟩,o⟩⟩,⟨ty95,⟨I5,⟨Kg,o,o⟩,o⟩,⟨Jc,o,o⟩⟩⟩,⟨ty47,⟨ty79,⟨H4,⟨JZ,o,o⟩,o⟩,⟨IW,o,o⟩⟩,⟨Gr,⟨Io,⟨Kw,o,o⟩,o⟩,⟨Jt,o,o⟩⟩⟩⟩,⟨ty23,⟨ty39,⟨ty71,⟨GS,⟨JR,o,o⟩,o⟩,⟨IM,o,o⟩⟩,⟨Gi,⟨Ie,⟨Ko,o,o⟩,o⟩,⟨Jk,o,o⟩⟩⟩,⟨ty55,⟨ty87,⟨Hj,⟨K8,o,o⟩,o⟩,⟨J4,o,o⟩⟩,⟨GB,⟨Iw,⟨KE,o,o⟩,o⟩,⟨JB,o,o⟩⟩⟩⟩⟩,⟨ty11,⟨ty19,⟨ty35,⟨ty67,⟨GO,⟨JN,o,o⟩,o⟩,⟨II,⟨KR,o,o⟩,o⟩⟩,⟨ty99,⟨I9,⟨Kk,o,o⟩,o⟩,⟨Jg,o,o⟩⟩⟩,⟨ty51,⟨ty83,⟨H8,⟨K3,o,o⟩,o⟩,⟨J0,o,o⟩⟩,⟨Gv,⟨Is,⟨KA,o,o⟩,o⟩,⟨Jx,o,o⟩⟩⟩⟩,⟨ty27,⟨ty43,⟨ty75,⟨GX,⟨JV,o,o⟩,o⟩,⟨IS,o,o⟩⟩,⟨Gm,⟨Ij,⟨Ks,o,o⟩,o⟩,⟨Jp,o,o⟩⟩⟩,⟨ty59,⟨ty91,⟨HK,⟨Kc,o,o⟩,o⟩,⟨J8,o,o⟩⟩,⟨GG,⟨IA,⟨KJ,o,o⟩,o⟩,⟨JF,o,o⟩⟩⟩⟩⟩⟩,⟨ty5,⟨ty9,⟨ty17,⟨ty33,⟨ty65,⟨GM,⟨JL,o,o⟩,o⟩,⟨IG,⟨KP,o,o⟩,o⟩⟩,⟨ty97,⟨I7,⟨Ki,o,o⟩,o⟩,⟨Je,o,o⟩⟩⟩,⟨ty49,⟨ty81,⟨H6,⟨K1,o,o⟩,o⟩,⟨IY,o,o⟩⟩,⟨Gt,⟨Iq,⟨Ky,o,o⟩,o⟩,⟨Jv,o,o⟩⟩⟩⟩,⟨ty25,⟨ty41,⟨ty73,⟨GV,⟨JT,o,o⟩,o⟩,⟨IP,o,o⟩⟩,⟨Gk,⟨Ih,⟨Kq,o,o⟩,o⟩,⟨Jm,o,o⟩⟩⟩,⟨ty57,⟨ty89,⟨Hw,⟨Ka,o,o⟩,o⟩,⟨J6,o,o⟩⟩,⟨GD,⟨Iy,⟨KG,o,o⟩,o⟩,⟨JD,o,o⟩⟩⟩⟩⟩,⟨ty13,⟨ty21,⟨ty37,⟨ty69,⟨GQ,⟨JP,o,o⟩,o⟩,⟨IK,⟨KT,o,o⟩,o⟩⟩,⟨Gg,⟨Ib,⟨Km,o,o⟩,o⟩,⟨Ji,o,o⟩⟩⟩,⟨ty53,⟨ty85,⟨Hc,⟨K6,o,o⟩,o⟩,⟨J2,o,o⟩⟩,⟨Gz,⟨Iu,⟨KC,o,o⟩,o⟩,⟨Jz,o,o⟩⟩⟩⟩,⟨ty29,⟨ty45,⟨ty77,⟨GZ,⟨JX,o,o⟩,o⟩,⟨IU,o,o⟩⟩,⟨Gp,⟨Il,⟨Ku,o,o⟩,o⟩,⟨Jr,o,o⟩⟩⟩,⟨ty61,⟨ty93,⟨I3,⟨Ke,o,o⟩,o⟩,⟨Ja,o,o⟩⟩,⟨GI,⟨IC,⟨KL,o,o⟩,o⟩,⟨JH,o,o⟩⟩⟩⟩⟩⟩⟩,⟨ty2,⟨ty4,⟨ty8,⟨ty16,⟨ty32,⟨ty64,⟨GL,⟨JK,o,o⟩,o⟩,⟨IF,⟨KO,o,o⟩,o⟩⟩,⟨ty96,⟨I6,⟨Kh,o,o⟩,o⟩,⟨Jd,o,o⟩⟩⟩,⟨ty48,⟨ty80,⟨H5,⟨K0,o,o⟩,o⟩,⟨IX,o,o⟩⟩,⟨Gs,⟨Ip,⟨Kx,o,o⟩,o⟩,⟨Ju,o,o⟩⟩⟩⟩,⟨ty24,⟨ty40,⟨ty72,⟨GU,⟨JS,o,o⟩,o⟩,⟨IN,o,o⟩⟩,⟨Gj,⟨Ig,⟨Kp,o,o⟩,o⟩,⟨Jl,o,o⟩⟩⟩,⟨ty56,⟨ty88,⟨Hv,⟨K9,o,o⟩,o⟩,⟨J5,o,o⟩⟩,⟨GC,⟨Ix,⟨KF,o,o⟩,o⟩,⟨JC,o,o⟩⟩⟩⟩⟩,⟨ty12,⟨ty20,⟨ty36,⟨ty68,⟨GP,⟨JO,o,o⟩,o⟩,⟨IJ,⟨KS,o,o⟩,o⟩⟩,⟨Gf,⟨Ia,⟨Kl,o,o⟩,o⟩,⟨Jh,o,o⟩⟩⟩,⟨ty52,⟨ty84,⟨H9,⟨K4,o,o⟩,o⟩,⟨J1,o,o⟩⟩,⟨Gw,⟨It,⟨KB,o,o⟩,o⟩,⟨Jy,o,o⟩⟩⟩⟩,⟨ty28,⟨ty44,⟨ty76,⟨GY,⟨JW,o,o⟩,o⟩,⟨IT,o,o⟩⟩,⟨Gn,⟨Ik,⟨Kt,o,o⟩,o⟩,⟨Jq,o,o⟩⟩⟩,⟨ty60,⟨ty92,⟨I0,⟨Kd,o,o⟩,o⟩,⟨J9,o,o⟩⟩,⟨GH,⟨IB,⟨KK,o,o⟩,o⟩,⟨JG,o,o⟩⟩⟩⟩⟩⟩,⟨ty6,⟨ty10,⟨ty18,⟨ty34,⟨ty66,⟨GN,⟨JM,o,o⟩,o⟩,⟨IH,⟨KQ,o,o⟩,o⟩⟩,⟨ty98,⟨I8,⟨Kj,o,o⟩,o⟩,⟨Jf,o,o⟩⟩⟩,⟨ty50,⟨ty82,⟨H7,⟨K2,o,o⟩,o⟩,⟨IZ,o,o⟩⟩,⟨Gu,⟨Ir,⟨Kz,o,o⟩,o⟩,⟨Jw,o,o⟩⟩⟩⟩,⟨ty26,⟨ty42,⟨ty74,⟨GW,⟨JU,o,o⟩,o⟩,⟨IQ,o,o⟩⟩,⟨Gl,⟨Ii,⟨Kr,o,o⟩,o⟩,⟨Jo,o,o⟩⟩⟩,⟨ty58,⟨ty90,⟨Hy,⟨Kb,o,o⟩,o⟩,⟨J7,o,o⟩⟩,⟨GF,⟨Iz,⟨KH,o,o⟩,o⟩,⟨JE,o,o⟩⟩⟩⟩⟩,⟨ty14,⟨ty22,⟨ty38,⟨ty70,⟨GR,⟨JQ,o,o⟩,o⟩,⟨IL,o,o⟩⟩,⟨Gh,⟨Ic,⟨Kn,o,o⟩,o⟩,⟨Jj,o,o⟩⟩⟩,⟨ty54,⟨ty86,⟨Hi,⟨K7,o,o⟩,o⟩,⟨J3,o,o⟩⟩,⟨GA,⟨Iv,⟨KD,o,o⟩,o⟩,⟨JA,o,o⟩⟩⟩⟩,⟨ty30,⟨ty46,⟨ty78,⟨H3,⟨JY,o,o⟩,o⟩,⟨IV,o,o⟩⟩,⟨Gq,⟨Im,⟨Kv,o,o⟩,o⟩,⟨Js,o,o⟩⟩⟩,⟨ty62,⟨ty94,⟨I4,⟨Kf,o,o⟩,o⟩,⟨Jb,o,o⟩⟩,⟨GJ,⟨ID,⟨KM,o,o⟩,o⟩,⟨JI,o,o⟩⟩⟩⟩⟩⟩⟩⟩
theorem fo6:FnI Tryz.prog 6 g6:=FnI.of Tryz.func6 rfl Tryz.ntmps6 rfl (by kernel_rfl) (by kernel_rfl)
theorem fo7:FnI Tryz.prog 7 g7:=FnI.of Tryz.func7 rfl Tryz.ntmps7 rfl (by kernel_rfl) (by kernel_rfl)
theorem fo8:FnI Tryz.prog 8 g8:=FnI.of Tryz.func8 rfl Tryz.ntmps8 rfl (by kernel_rfl) (by kernel_rfl)
theorem fo19:FnI Tryz.prog 19 g19:=FnI.of Tryz.func19 rfl Tryz.ntmps19 rfl (by kernel_rfl) (by kernel_rfl)
theorem fo25:FnI Tryz.prog 25 g25:=FnI.of Tryz.func25 rfl Tryz.ntmps25 rfl (by kernel_rfl) (by kernel_rfl)
theorem fo27:FnI Tryz.prog 27 g27:=FnI.of Tryz.func27 rfl Tryz.ntmps27 rfl (by kernel_rfl) (by kernel_rfl)
theorem fo31:FnI Tryz.prog 31 g31:=FnI.of Tryz.func31 rfl Tryz.ntmps31 rfl (by kernel_rfl) (by kernel_rfl)
theorem fo32:FnI Tryz.prog 32 g32:=FnI.of Tryz.func32 rfl Tryz.ntmps32 rfl (by kernel_rfl) (by kernel_rfl)
theorem fo33:FnI Tryz.prog 33 g33:=FnI.of Tryz.func33 rfl Tryz.ntmps33 rfl (by kernel_rfl) (by kernel_rfl)
theorem fo38:FnI Tryz.prog 38 g38:=FnI.of Tryz.func38 rfl Tryz.ntmps38 rfl (by kernel_rfl) (by kernel_rfl)
theorem fo39:FnI Tryz.prog 39 g39:=FnI.of Tryz.func39 rfl Tryz.ntmps39 rfl (by kernel_rfl) (by kernel_rfl)
theorem fo40:FnI Tryz.prog 40 g40:=FnI.of Tryz.func40 rfl Tryz.ntmps40 rfl (by kernel_rfl) (by kernel_rfl)
theorem fo41:FnI Tryz.prog 41 g41:=FnI.of Tryz.func41 rfl Tryz.ntmps41 rfl (by kernel_rfl) (by kernel_rfl)
theorem fo42:FnI Tryz.prog 42 g42:=FnI.of Tryz.func42 rfl Tryz.ntmps42 rfl (by kernel_rfl) (by kernel_rfl)
theorem fo43:FnI Tryz.prog 43 g43:=FnI.of Tryz.func43 rfl Tryz.ntmps43 rfl (by kernel_rfl) (by kernel_rfl)
theorem fo44:FnI Tryz.prog 44 g44:=FnI.of Tryz.func44 rfl Tryz.ntmps44 rfl (by kernel_rfl) (by kernel_rfl)
theorem fo45:FnI Tryz.prog 45 g45:=FnI.of Tryz.func45 rfl Tryz.ntmps45 rfl (by kernel_rfl) (by kernel_rfl)
theorem fo46:FnI Tryz.prog 46 g46:=FnI.of Tryz.func46 rfl Tryz.ntmps46 rfl (by kernel_rfl) (by kernel_rfl)
theorem fo47:FnI Tryz.prog 47 g47:=FnI.of Tryz.func47 rfl Tryz.ntmps47 rfl (by kernel_rfl) (by kernel_rfl)
theorem fo48:FnI Tryz.prog 48 g48:=FnI.of Tryz.func48 rfl Tryz.ntmps48 rfl (by kernel_rfl) (by kernel_rfl)
theorem fo49:FnI Tryz.prog 49 g49:=FnI.of Tryz.func49 rfl Tryz.ntmps49 rfl (by kernel_rfl) (by kernel_rfl)
theorem fo50:FnI Tryz.prog 50 g50:=FnI.of Tryz.func50 rfl Tryz.ntmps50 rfl (by kernel_rfl) (by kernel_rfl)
theorem fo51:FnI Tryz.prog 51 g51:=FnI.of Tryz.func51 rfl Tryz.ntmps51 rfl (by kernel_rfl) (by kernel_rfl)
theorem fo52:FnI Tryz.prog 52 g52:=FnI.of Tryz.func52 rfl Tryz.ntmps52 rfl (by kernel_rfl) (by kernel_rfl)
theorem fo53:FnI Tryz.prog 53 g53:=FnI.of Tryz.func53 rfl Tryz.ntmps53 rfl (by kernel_rfl) (by kernel_rfl)
theorem fo54:FnI Tryz.prog 54 g54:=FnI.of Tryz.func54 rfl Tryz.ntmps54 rfl (by kernel_rfl) (by kernel_rfl)
theorem fo55:FnI Tryz.prog 55 g55:=FnI.of Tryz.func55 rfl Tryz.ntmps55 rfl (by kernel_rfl) (by kernel_rfl)
theorem fo56:FnI Tryz.prog 56 g56:=FnI.of Tryz.func56 rfl Tryz.ntmps56 rfl (by kernel_rfl) (by kernel_rfl)
theorem fo57:FnI Tryz.prog 57 g57:=FnI.of Tryz.func57 rfl Tryz.ntmps57 rfl (by kernel_rfl) (by kernel_rfl)
theorem fo58:FnI Tryz.prog 58 g58:=FnI.of Tryz.func58 rfl Tryz.ntmps58 rfl (by kernel_rfl) (by kernel_rfl)
theorem fo59:FnI Tryz.prog 59 g59:=FnI.of Tryz.func59 rfl Tryz.ntmps59 rfl (by kernel_rfl) (by kernel_rfl)
theorem fo73:FnI Tryz.prog 73 g73:=FnI.of Tryz.func73 rfl Tryz.ntmps73 rfl (by kernel_rfl) (by kernel_rfl)
theorem fo74:FnI Tryz.prog 74 g74:=FnI.of Tryz.func74 rfl Tryz.ntmps74 rfl (by kernel_rfl) (by kernel_rfl)
theorem fo75:FnI Tryz.prog 75 g75:=FnI.of Tryz.func75 rfl Tryz.ntmps75 rfl (by kernel_rfl) (by kernel_rfl)
theorem fo76:FnI Tryz.prog 76 g76:=FnI.of Tryz.func76 rfl Tryz.ntmps76 rfl (by kernel_rfl) (by kernel_rfl)
theorem fo81:FnI Tryz.prog 81 g81:=FnI.of Tryz.func81 rfl Tryz.ntmps81 rfl (by kernel_rfl) (by kernel_rfl)
theorem fo82:FnI Tryz.prog 82 g82:=FnI.of Tryz.func82 rfl Tryz.ntmps82 rfl (by kernel_rfl) (by kernel_rfl)
theorem fo83:FnI Tryz.prog 83 g83:=FnI.of Tryz.func83 rfl Tryz.ntmps83 rfl (by kernel_rfl) (by kernel_rfl)
theorem fo84:FnI Tryz.prog 84 g84:=FnI.of Tryz.func84 rfl Tryz.ntmps84 rfl (by kernel_rfl) (by kernel_rfl)
theorem fo85:FnI Tryz.prog 85 g85:=FnI.of Tryz.func85 rfl Tryz.ntmps85 rfl (by kernel_rfl) (by kernel_rfl)
theorem fo87:FnI Tryz.prog 87 g87:=FnI.of Tryz.func87 rfl Tryz.ntmps87 rfl (by kernel_rfl) (by kernel_rfl)
theorem fo89:FnI Tryz.prog 89 g89:=FnI.of Tryz.func89 rfl Tryz.ntmps89 rfl (by kernel_rfl) (by kernel_rfl)
theorem fo90:FnI Tryz.prog 90 g90:=FnI.of Tryz.func90 rfl Tryz.ntmps90 rfl (by kernel_rfl) (by kernel_rfl)
theorem fo91:FnI Tryz.prog 91 g91:=FnI.of Tryz.func91 rfl Tryz.ntmps91 rfl (by kernel_rfl) (by kernel_rfl)
theorem fo92:FnI Tryz.prog 92 g92:=FnI.of Tryz.func92 rfl Tryz.ntmps92 rfl (by kernel_rfl) (by kernel_rfl)
theorem fo93:FnI Tryz.prog 93 g93:=FnI.of Tryz.func93 rfl Tryz.ntmps93 rfl (by kernel_rfl) (by kernel_rfl)
theorem fo94:FnI Tryz.prog 94 g94:=FnI.of Tryz.func94 rfl Tryz.ntmps94 rfl (by kernel_rfl) (by kernel_rfl)
theorem fo95:FnI Tryz.prog 95 g95:=FnI.of Tryz.func95 rfl Tryz.ntmps95 rfl (by kernel_rfl) (by kernel_rfl)
theorem fo96:FnI Tryz.prog 96 g96:=FnI.of Tryz.func96 rfl Tryz.ntmps96 rfl (by kernel_rfl) (by kernel_rfl)
theorem fo97:FnI Tryz.prog 97 g97:=FnI.of Tryz.func97 rfl Tryz.ntmps97 rfl (by kernel_rfl) (by kernel_rfl)
theorem fo98:FnI Tryz.prog 98 g98:=FnI.of Tryz.func98 rfl Tryz.ntmps98 rfl (by kernel_rfl) (by kernel_rfl)
theorem fo99:FnI Tryz.prog 99 g99:=FnI.of Tryz.func99 rfl Tryz.ntmps99 rfl (by kernel_rfl) (by kernel_rfl)
theorem Cf:FnI Tryz.prog 100 E7:=FnI.of Tryz.func100 rfl Tryz.ntmps100 rfl (by kernel_rfl) (by kernel_rfl)
theorem Cg:FnI Tryz.prog 101 E8:=FnI.of Tryz.func101 rfl Tryz.ntmps101 rfl (by kernel_rfl) (by kernel_rfl)
theorem Ch:FnI Tryz.prog 102 E9:=FnI.of Tryz.func102 rfl Tryz.ntmps102 rfl (by kernel_rfl) (by kernel_rfl)
theorem Ci:FnI Tryz.prog 103 Ea:=FnI.of Tryz.func103 rfl Tryz.ntmps103 rfl (by kernel_rfl) (by kernel_rfl)
theorem Cj:FnI Tryz.prog 104 Eb:=FnI.of Tryz.func104 rfl Tryz.ntmps104 rfl (by kernel_rfl) (by kernel_rfl)
theorem Ck:FnI Tryz.prog 105 Ec:=FnI.of Tryz.func105 rfl Tryz.ntmps105 rfl (by kernel_rfl) (by kernel_rfl)
theorem Cm:FnI Tryz.prog 106 Ed:=FnI.of Tryz.func106 rfl Tryz.ntmps106 rfl (by kernel_rfl) (by kernel_rfl)
theorem Cn:FnI Tryz.prog 107 Ee:=FnI.of Tryz.func107 rfl Tryz.ntmps107 rfl (by kernel_rfl) (by kernel_rfl)
theorem Co:FnI Tryz.prog 108 Ef:=FnI.of Tryz.func108 rfl Tryz.ntmps108 rfl (by kernel_rfl) (by kernel_rfl)
theorem Cp:FnI Tryz.prog 109 Eg:=FnI.of Tryz.func109 rfl Tryz.ntmps109 rfl (by kernel_rfl) (by kernel_rfl)
theorem Cq:FnI Tryz.prog 110 Eh:=FnI.of Tryz.func110 rfl Tryz.ntmps110 rfl (by kernel_rfl) (by kernel_rfl)
theorem Cr:FnI Tryz.prog 111 Ei:=FnI.of Tryz.func111 rfl Tryz.ntmps111 rfl (by kernel_rfl) (by kernel_rfl)
theorem Cs:FnI Tryz.prog 112 Ej:=FnI.of Tryz.func112 rfl Tryz.ntmps112 rfl (by kernel_rfl) (by kernel_rfl)
theorem Ct:FnI Tryz.prog 113 Ek:=FnI.of Tryz.func113 rfl Tryz.ntmps113 rfl (by kernel_rfl) (by kernel_rfl)
theorem Cu:FnI Tryz.prog 114 El:=FnI.of Tryz.func114 rfl Tryz.ntmps114 rfl (by kernel_rfl) (by kernel_rfl)
theorem Cv:FnI Tryz.prog 115 Em:=FnI.of Tryz.func115 rfl Tryz.ntmps115 rfl (by kernel_rfl) (by kernel_rfl)
theorem Cw:FnI Tryz.prog 116 En:=FnI.of Tryz.func116 rfl Tryz.ntmps116 rfl (by kernel_rfl) (by kernel_rfl)
theorem Cx:FnI Tryz.prog 117 Eo:=FnI.of Tryz.func117 rfl Tryz.ntmps117 rfl (by kernel_rfl) (by kernel_rfl)
theorem Cy:FnI Tryz.prog 118 Ep:=FnI.of Tryz.func118 rfl Tryz.ntmps118 rfl (by kernel_rfl) (by kernel_rfl)
theorem Cz:FnI Tryz.prog 119 Er:=FnI.of Tryz.func119 rfl Tryz.ntmps119 rfl (by kernel_rfl) (by kernel_rfl)
theorem CA:FnI Tryz.prog 120 Es:=FnI.of Tryz.func120 rfl Tryz.ntmps120 rfl (by kernel_rfl) (by kernel_rfl)
theorem CB:FnI Tryz.prog 121 Et:=FnI.of Tryz.func121 rfl Tryz.ntmps121 rfl (by kernel_rfl) (by kernel_rfl)
theorem CC:FnI Tryz.prog 122 Eu:=FnI.of Tryz.func122 rfl Tryz.ntmps122 rfl (by kernel_rfl) (by kernel_rfl)
theorem CD:FnI Tryz.prog 123 Ev:=FnI.of Tryz.func123 rfl Tryz.ntmps123 rfl (by kernel_rfl) (by kernel_rfl)
theorem CE:FnI Tryz.prog 124 Ew:=FnI.of Tryz.func124 rfl Tryz.ntmps124 rfl (by kernel_rfl) (by kernel_rfl)
theorem CF:FnI Tryz.prog 125 Ey:=FnI.of Tryz.func125 rfl Tryz.ntmps125 rfl (by kernel_rfl) (by kernel_rfl)
theorem CG:FnI Tryz.prog 126 Ez:=FnI.of Tryz.func126 rfl Tryz.ntmps126 rfl (by kernel_rfl) (by kernel_rfl)
theorem CH:FnI Tryz.prog 127 EA:=FnI.of Tryz.func127 rfl Tryz.ntmps127 rfl (by kernel_rfl) (by kernel_rfl)
theorem CI:FnI Tryz.prog 128 EB:=FnI.of Tryz.func128 rfl Tryz.ntmps128 rfl (by kernel_rfl) (by kernel_rfl)
theorem CJ:FnI Tryz.prog 129 EC:=FnI.of Tryz.func129 rfl Tryz.ntmps129 rfl (by kernel_rfl) (by kernel_rfl)
theorem CK:FnI Tryz.prog 130 ED:=FnI.of Tryz.func130 rfl Tryz.ntmps130 rfl (by kernel_rfl) (by kernel_rfl)
theorem CL:FnI Tryz.prog 131 EE:=FnI.of Tryz.func131 rfl Tryz.ntmps131 rfl (by kernel_rfl) (by kernel_rfl)
theorem CM:FnI Tryz.prog 132 EF:=FnI.of Tryz.func132 rfl Tryz.ntmps132 rfl (by kernel_rfl) (by kernel_rfl)
theorem CN:FnI Tryz.prog 133 EG:=FnI.of Tryz.func133 rfl Tryz.ntmps133 rfl (by kernel_rfl) (by kernel_rfl)
theorem CO:FnI Tryz.prog 134 EH:=FnI.of Tryz.func134 rfl Tryz.ntmps134 rfl (by kernel_rfl) (by kernel_rfl)
theorem CP:FnI Tryz.prog 144 EI:=FnI.of Tryz.func144 rfl Tryz.ntmps144 rfl (by kernel_rfl) (by kernel_rfl)
theorem CQ:FnI Tryz.prog 145 EJ:=FnI.of Tryz.func145 rfl Tryz.ntmps145 rfl (by kernel_rfl) (by kernel_rfl)
theorem CR:FnI Tryz.prog 150 EK:=FnI.of Tryz.func150 rfl Tryz.ntmps150 rfl (by kernel_rfl) (by kernel_rfl)
theorem CS:FnI Tryz.prog 151 EL:=FnI.of Tryz.func151 rfl Tryz.ntmps151 rfl (by kernel_rfl) (by kernel_rfl)
theorem CT:FnI Tryz.prog 152 EM:=FnI.of Tryz.func152 rfl Tryz.ntmps152 rfl (by kernel_rfl) (by kernel_rfl)
theorem CU:FnI Tryz.prog 153 EN:=FnI.of Tryz.func153 rfl Tryz.ntmps153 rfl (by kernel_rfl) (by kernel_rfl)
theorem CV:FnI Tryz.prog 154 EO:=FnI.of Tryz.func154 rfl Tryz.ntmps154 rfl (by kernel_rfl) (by kernel_rfl)
theorem CW:FnI Tryz.prog 155 EP:=FnI.of Tryz.func155 rfl Tryz.ntmps155 rfl (by kernel_rfl) (by kernel_rfl)
theorem CX:FnI Tryz.prog 156 ER:=FnI.of Tryz.func156 rfl Tryz.ntmps156 rfl (by kernel_rfl) (by kernel_rfl)
theorem CY:FnI Tryz.prog 157 ES:=FnI.of Tryz.func157 rfl Tryz.ntmps157 rfl (by kernel_rfl) (by kernel_rfl)
theorem CZ:FnI Tryz.prog 158 ET:=FnI.of Tryz.func158 rfl Tryz.ntmps158 rfl (by kernel_rfl) (by kernel_rfl)
theorem D3:FnI Tryz.prog 159 EU:=FnI.of Tryz.func159 rfl Tryz.ntmps159 rfl (by kernel_rfl) (by kernel_rfl)
theorem D4:FnI Tryz.prog 160 EV:=FnI.of Tryz.func160 rfl Tryz.ntmps160 rfl (by kernel_rfl) (by kernel_rfl)
theorem D5:FnI Tryz.prog 163 EW:=FnI.of Tryz.func163 rfl Tryz.ntmps163 rfl (by kernel_rfl) (by kernel_rfl)
theorem D6:FnI Tryz.prog 164 EX:=FnI.of Tryz.func164 rfl Tryz.ntmps164 rfl (by kernel_rfl) (by kernel_rfl)
theorem D7:FnI Tryz.prog 165 EY:=FnI.of Tryz.func165 rfl Tryz.ntmps165 rfl (by kernel_rfl) (by kernel_rfl)
theorem D8:FnI Tryz.prog 166 EZ:=FnI.of Tryz.func166 rfl Tryz.ntmps166 rfl (by kernel_rfl) (by kernel_rfl)
theorem D9:FnI Tryz.prog 167 F0:=FnI.of Tryz.func167 rfl Tryz.ntmps167 rfl (by kernel_rfl) (by kernel_rfl)
theorem Da:FnI Tryz.prog 168 F3:=FnI.of Tryz.func168 rfl Tryz.ntmps168 rfl (by kernel_rfl) (by kernel_rfl)
theorem Db:FnI Tryz.prog 169 F4:=FnI.of Tryz.func169 rfl Tryz.ntmps169 rfl (by kernel_rfl) (by kernel_rfl)
theorem Dc:FnI Tryz.prog 170 F5:=FnI.of Tryz.func170 rfl Tryz.ntmps170 rfl (by kernel_rfl) (by kernel_rfl)
theorem Dd:FnI Tryz.prog 171 F6:=FnI.of Tryz.func171 rfl Tryz.ntmps171 rfl (by kernel_rfl) (by kernel_rfl)
theorem De:FnI Tryz.prog 172 F7:=FnI.of Tryz.func172 rfl Tryz.ntmps172 rfl (by kernel_rfl) (by kernel_rfl)
theorem Df:FnI Tryz.prog 173 F8:=FnI.of Tryz.func173 rfl Tryz.ntmps173 rfl (by kernel_rfl) (by kernel_rfl)
theorem Dg:FnI Tryz.prog 174 F9:=FnI.of Tryz.func174 rfl Tryz.ntmps174 rfl (by kernel_rfl) (by kernel_rfl)
theorem Dh:FnI Tryz.prog 175 Fb:=FnI.of Tryz.func175 rfl Tryz.ntmps175 rfl (by kernel_rfl) (by kernel_rfl)
theorem Di:FnI Tryz.prog 176 Fc:=FnI.of Tryz.func176 rfl Tryz.ntmps176 rfl (by kernel_rfl) (by kernel_rfl)
theorem Dj:FnI Tryz.prog 177 Fe:=FnI.of Tryz.func177 rfl Tryz.ntmps177 rfl (by kernel_rfl) (by kernel_rfl)
theorem Dk:FnI Tryz.prog 178 Ff:=FnI.of Tryz.func178 rfl Tryz.ntmps178 rfl (by kernel_rfl) (by kernel_rfl)
theorem Dl:FnI Tryz.prog 179 Fg:=FnI.of Tryz.func179 rfl Tryz.ntmps179 rfl (by kernel_rfl) (by kernel_rfl)
theorem Dm:FnI Tryz.prog 181 Fh:=FnI.of Tryz.func181 rfl Tryz.ntmps181 rfl (by kernel_rfl) (by kernel_rfl)
theorem Dn:FnI Tryz.prog 182 Fi:=FnI.of Tryz.func182 rfl Tryz.ntmps182 rfl (by kernel_rfl) (by kernel_rfl)
theorem Dp:FnI Tryz.prog 183 Fj:=FnI.of Tryz.func183 rfl Tryz.ntmps183 rfl (by kernel_rfl) (by kernel_rfl)
theorem Dq:FnI Tryz.prog 184 Fk:=FnI.of Tryz.func184 rfl Tryz.ntmps184 rfl (by kernel_rfl) (by kernel_rfl)
theorem Dr:FnI Tryz.prog 185 Fm:=FnI.of Tryz.func185 rfl Tryz.ntmps185 rfl (by kernel_rfl) (by kernel_rfl)
theorem Ds:FnI Tryz.prog 186 Fo:=FnI.of Tryz.func186 rfl Tryz.ntmps186 rfl (by kernel_rfl) (by kernel_rfl)
theorem Dt:FnI Tryz.prog 187 Fp:=FnI.of Tryz.func187 rfl Tryz.ntmps187 rfl (by kernel_rfl) (by kernel_rfl)
theorem Du:FnI Tryz.prog 188 Fq:=FnI.of Tryz.func188 rfl Tryz.ntmps188 rfl (by kernel_rfl) (by kernel_rfl)
theorem Dw:FnI Tryz.prog 191 Fs:=FnI.of Tryz.func191 rfl Tryz.ntmps191 rfl (by kernel_rfl) (by kernel_rfl)
theorem Dx:FnI Tryz.prog 198 Ft:=FnI.of Tryz.func198 rfl Tryz.ntmps198 rfl (by kernel_rfl) (by kernel_rfl)
theorem Dy:FnI Tryz.prog 205 Fu:=FnI.of Tryz.func205 rfl Tryz.ntmps205 rfl (by kernel_rfl) (by kernel_rfl)
theorem Dz:FnI Tryz.prog 206 Fv:=FnI.of Tryz.func206 rfl Tryz.ntmps206 rfl (by kernel_rfl) (by kernel_rfl)
theorem DA:FnI Tryz.prog 207 Fx:=FnI.of Tryz.func207 rfl Tryz.ntmps207 rfl (by kernel_rfl) (by kernel_rfl)
theorem DB:FnI Tryz.prog 208 Fy:=FnI.of Tryz.func208 rfl Tryz.ntmps208 rfl (by kernel_rfl) (by kernel_rfl)
theorem DC:FnI Tryz.prog 209 Fz:=FnI.of Tryz.func209 rfl Tryz.ntmps209 rfl (by kernel_rfl) (by kernel_rfl)
theorem DD:FnI Tryz.prog 210 FA:=FnI.of Tryz.func210 rfl Tryz.ntmps210 rfl (by kernel_rfl) (by kernel_rfl)
theorem DE:FnI Tryz.prog 212 FB:=FnI.of Tryz.func212 rfl Tryz.ntmps212 rfl (by kernel_rfl) (by kernel_rfl)
theorem DF:FnI Tryz.prog 213 FC:=FnI.of Tryz.func213 rfl Tryz.ntmps213 rfl (by kernel_rfl) (by kernel_rfl)
theorem DG:FnI Tryz.prog 214 FD:=FnI.of Tryz.func214 rfl Tryz.ntmps214 rfl (by kernel_rfl) (by kernel_rfl)
theorem DH:FnI Tryz.prog 215 FE:=FnI.of Tryz.func215 rfl Tryz.ntmps215 rfl (by kernel_rfl) (by kernel_rfl)
theorem DI:FnI Tryz.prog 216 FF:=FnI.of Tryz.func216 rfl Tryz.ntmps216 rfl (by kernel_rfl) (by kernel_rfl)
theorem DJ:FnI Tryz.prog 218 FG:=FnI.of Tryz.func218 rfl Tryz.ntmps218 rfl (by kernel_rfl) (by kernel_rfl)
theorem DK:FnI Tryz.prog 219 FH:=FnI.of Tryz.func219 rfl Tryz.ntmps219 rfl (by kernel_rfl) (by kernel_rfl)
theorem DL:FnI Tryz.prog 220 FI:=FnI.of Tryz.func220 rfl Tryz.ntmps220 rfl (by kernel_rfl) (by kernel_rfl)
theorem DM:FnI Tryz.prog 221 FJ:=FnI.of Tryz.func221 rfl Tryz.ntmps221 rfl (by kernel_rfl) (by kernel_rfl)
theorem DN:FnI Tryz.prog 222 FK:=FnI.of Tryz.func222 rfl Tryz.ntmps222 rfl (by kernel_rfl) (by kernel_rfl)
theorem DO:FnI Tryz.prog 230 FL:=FnI.of Tryz.func230 rfl Tryz.ntmps230 rfl (by kernel_rfl) (by kernel_rfl)
theorem DP:FnI Tryz.prog 231 FM:=FnI.of Tryz.func231 rfl Tryz.ntmps231 rfl (by kernel_rfl) (by kernel_rfl)
theorem DQ:FnI Tryz.prog 232 FN:=FnI.of Tryz.func232 rfl Tryz.ntmps232 rfl (by kernel_rfl) (by kernel_rfl)
theorem DR:FnI Tryz.prog 233 FO:=FnI.of Tryz.func233 rfl Tryz.ntmps233 rfl (by kernel_rfl) (by kernel_rfl)
theorem DT:FnI Tryz.prog 238 FP:=FnI.of Tryz.func238 rfl Tryz.ntmps238 rfl (by kernel_rfl) (by kernel_rfl)
theorem DU:FnI Tryz.prog 239 FQ:=FnI.of Tryz.func239 rfl Tryz.ntmps239 rfl (by kernel_rfl) (by kernel_rfl)
theorem DV:FnI Tryz.prog 246 FR:=FnI.of Tryz.func246 rfl Tryz.ntmps246 rfl (by kernel_rfl) (by kernel_rfl)
theorem DW:FnI Tryz.prog 250 FT:=FnI.of Tryz.func250 rfl Tryz.ntmps250 rfl (by kernel_rfl) (by kernel_rfl)
theorem DX:FnI Tryz.prog 251 FU:=FnI.of Tryz.func251 rfl Tryz.ntmps251 rfl (by kernel_rfl) (by kernel_rfl)
theorem DY:FnI Tryz.prog 252 FV:=FnI.of Tryz.func252 rfl Tryz.ntmps252 rfl (by kernel_rfl) (by kernel_rfl)
theorem DZ:FnI Tryz.prog 253 FW:=FnI.of Tryz.func253 rfl Tryz.ntmps253 rfl (by kernel_rfl) (by kernel_rfl)
theorem E0:FnI Tryz.prog 260 FX:=FnI.of Tryz.func260 rfl Tryz.ntmps260 rfl (by kernel_rfl) (by kernel_rfl)
theorem E6:FnI Tryz.prog 261 FY:=FnI.of Tryz.func261 rfl Tryz.ntmps261 rfl (by kernel_rfl) (by kernel_rfl)
theorem BD:Tr.Fa (FnI Tryz.prog) fnT:=
 ⟨o,⟨o,⟨o,⟨fo7,⟨o,⟨fo31,⟨o,⟨CH,o,o⟩,⟨Dw,o,o⟩⟩,⟨fo95,⟨D3,o,o⟩,o⟩⟩,⟨fo47,⟨o,o,⟨DA,o,o⟩⟩,⟨Cr,⟨Dh,o,o⟩,⟨DU,o,o⟩⟩⟩⟩,⟨o,⟨fo39,o,⟨Ci,⟨D9,o,o⟩,⟨DP,o,o⟩⟩⟩,⟨fo55,⟨fo87,⟨CS,o,o⟩,⟨DH,o,o⟩⟩,⟨Cz,⟨Dp,o,o⟩,o⟩⟩⟩⟩,⟨o,⟨fo19,⟨o,⟨o,⟨CL,o,o⟩,o⟩,⟨fo99,⟨D5,o,o⟩,o⟩⟩,⟨fo51,⟨fo83,o,o⟩,⟨Cv,⟨Dl,o,o⟩,o⟩⟩⟩,⟨fo27,⟨fo43,⟨fo75,o,o⟩,⟨Cn,⟨Dd,o,o⟩,o⟩⟩,⟨fo59,⟨fo91,⟨CW,o,o⟩,⟨DK,o,o⟩⟩,⟨CD,⟨Dt,o,o⟩,⟨DX,o,o⟩⟩⟩⟩⟩⟩,⟨o,⟨o,⟨o,⟨fo33,⟨o,⟨CJ,o,o⟩,o⟩,⟨fo97,o,o⟩⟩,⟨fo49,⟨fo81,⟨CQ,o,o⟩,⟨DC,o,o⟩⟩,⟨Ct,⟨Dj,o,o⟩,o⟩⟩⟩,⟨fo25,⟨fo41,⟨fo73,o,o⟩,⟨Ck,⟨Db,o,o⟩,⟨DR,o,o⟩⟩⟩,⟨fo57,⟨fo89,⟨CU,o,o⟩,o⟩,⟨CB,⟨Dr,o,o⟩,o⟩⟩⟩⟩,⟨o,⟨o,⟨o,⟨o,⟨CN,⟨E6,o,o⟩,o⟩,o⟩,⟨Cg,⟨D7,o,o⟩,o⟩⟩,⟨fo53,⟨fo85,o,⟨DF,o,o⟩⟩,⟨Cx,⟨Dm,o,o⟩,o⟩⟩⟩,⟨o,⟨fo45,⟨o,o,⟨Dy,o,o⟩⟩,⟨Cp,⟨Df,o,o⟩,o⟩⟩,⟨o,⟨fo93,⟨CY,o,o⟩,⟨DM,o,o⟩⟩,⟨CF,o,⟨DZ,o,o⟩⟩⟩⟩⟩⟩⟩,⟨o,⟨o,⟨fo8,⟨o,⟨fo32,⟨o,⟨CI,o,o⟩,o⟩,⟨fo96,⟨D4,o,o⟩,o⟩⟩,⟨fo48,⟨o,⟨CP,o,o⟩,⟨DB,o,o⟩⟩,⟨Cs,⟨Di,o,o⟩,o⟩⟩⟩,⟨o,⟨fo40,o,⟨Cj,⟨Da,o,o⟩,⟨DQ,o,o⟩⟩⟩,⟨fo56,⟨o,⟨CT,o,o⟩,⟨DI,o,o⟩⟩,⟨CA,⟨Dq,o,o⟩,o⟩⟩⟩⟩,⟨o,⟨o,⟨o,⟨o,⟨CM,⟨E0,o,o⟩,o⟩,o⟩,⟨Cf,⟨D6,o,o⟩,o⟩⟩,⟨fo52,⟨fo84,o,⟨DE,o,o⟩⟩,⟨Cw,o,o⟩⟩⟩,⟨o,⟨fo44,⟨fo76,o,o⟩,⟨Co,⟨De,o,o⟩,o⟩⟩,⟨o,⟨fo92,⟨CX,o,o⟩,⟨DL,o,o⟩⟩,⟨CE,⟨Du,o,o⟩,⟨DY,o,o⟩⟩⟩⟩⟩⟩,⟨fo6,⟨o,⟨o,⟨o,⟨o,⟨CK,o,o⟩,o⟩,⟨fo98,o,o⟩⟩,⟨fo50,⟨fo82,o,⟨DD,o,o⟩⟩,⟨Cu,⟨Dk,o,o⟩,o⟩⟩⟩,⟨o,⟨fo42,⟨fo74,o,o⟩,⟨Cm,⟨Dc,o,o⟩,o⟩⟩,⟨fo58,⟨fo90,⟨CV,o,o⟩,⟨DJ,o,o⟩⟩,⟨CC,⟨Ds,o,o⟩,⟨DW,o,o⟩⟩⟩⟩⟩,⟨o,⟨o,⟨fo38,⟨o,⟨CO,o,o⟩,⟨Dx,o,o⟩⟩,⟨Ch,⟨D8,o,o⟩,⟨DO,o,o⟩⟩⟩,⟨fo54,⟨o,⟨CR,o,o⟩,⟨DG,o,o⟩⟩,⟨Cy,⟨Dn,o,o⟩,⟨DV,o,o⟩⟩⟩⟩,⟨o,⟨fo46,⟨o,o,⟨Dz,o,o⟩⟩,⟨Cq,⟨Dg,o,o⟩,⟨DT,o,o⟩⟩⟩,⟨o,⟨fo94,⟨CZ,o,o⟩,⟨DN,o,o⟩⟩,⟨CG,o,o⟩⟩⟩⟩⟩⟩⟩
end Go.Sx.Seat
