import Derived.Test.YtiohhcljhadgcaaGreatDoorSeatTab
set_option linter.unusedSectionVars false
set_option linter.unusedVariables false
set_option linter.unusedSimpArgs false
namespace Go.Sx.Seat
open Go Go.Proofs
theorem o:True:=trivial
theorem ty0:tyI Tryz.prog 0=some t0:=by kernel_rfl
theorem ty1:tyI Tryz.prog 1=some t1:=by kernel_rfl
theorem ty2:tyI Tryz.prog 2=some t2:=by kernel_rfl
theorem ty3:tyI Tryz.prog 3=some t2:=by kernel_rfl
theorem ty4:tyI Tryz.prog 4=some t4:=by kernel_rfl
theorem ty5:tyI Tryz.prog 5=some t5:=by kernel_rfl
theorem ty6:tyI Tryz.prog 6=some t5:=by kernel_rfl
theorem ty7:tyI Tryz.prog 7=some t7:=by kernel_rfl
theorem ty8:tyI Tryz.prog 8=some t7:=by kernel_rfl
theorem ty9:tyI Tryz.prog 9=some t9:=by kernel_rfl
theorem ty10:tyI Tryz.prog 10=some t9:=by kernel_rfl
theorem ty11:tyI Tryz.prog 11=some t9:=by kernel_rfl
theorem ty12:tyI Tryz.prog 12=some t12:=by kernel_rfl
theorem ty13:tyI Tryz.prog 13=some t13:=by kernel_rfl
theorem ty14:tyI Tryz.prog 14=some t13:=by kernel_rfl
theorem ty15:tyI Tryz.prog 15=some t15:=by kernel_rfl
theorem ty16:tyI Tryz.prog 16=some t16:=by kernel_rfl
theorem ty17:tyI Tryz.prog 17=some t17:=by kernel_rfl
theorem ty18:tyI Tryz.prog 18=some t18:=by kernel_rfl
theorem ty19:tyI Tryz.prog 19=some t18:=by kernel_rfl
theorem ty20:tyI Tryz.prog 20=some t20:=by kernel_rfl
theorem ty21:tyI Tryz.prog 21=some t21:=by kernel_rfl
theorem ty22:tyI Tryz.prog 22=some t9:=by kernel_rfl
theorem ty23:tyI Tryz.prog 23=some t1:=by kernel_rfl
theorem ty24:tyI Tryz.prog 24=some t1:=by kernel_rfl
theorem ty25:tyI Tryz.prog 25=some t1:=by kernel_rfl
theorem ty26:tyI Tryz.prog 26=some t2:=by kernel_rfl
theorem ty27:tyI Tryz.prog 27=some t1:=by kernel_rfl
theorem ty28:tyI Tryz.prog 28=some t0:=by kernel_rfl
theorem ty29:tyI Tryz.prog 29=some t1:=by kernel_rfl
theorem ty30:tyI Tryz.prog 30=some t0:=by kernel_rfl
theorem ty31:tyI Tryz.prog 31=some t1:=by kernel_rfl
theorem ty32:tyI Tryz.prog 32=some t1:=by kernel_rfl
theorem ty33:tyI Tryz.prog 33=some t1:=by kernel_rfl
theorem ty34:tyI Tryz.prog 34=some t1:=by kernel_rfl
theorem ty35:tyI Tryz.prog 35=some t1:=by kernel_rfl
theorem ty36:tyI Tryz.prog 36=some t1:=by kernel_rfl
theorem ty37:tyI Tryz.prog 37=some t1:=by kernel_rfl
theorem ty38:tyI Tryz.prog 38=some t38:=by kernel_rfl
theorem ty39:tyI Tryz.prog 39=some t1:=by kernel_rfl
theorem ty40:tyI Tryz.prog 40=some t1:=by kernel_rfl
theorem ty41:tyI Tryz.prog 41=some t1:=by kernel_rfl
theorem ty42:tyI Tryz.prog 42=some t1:=by kernel_rfl
theorem ty43:tyI Tryz.prog 43=some t1:=by kernel_rfl
theorem ty44:tyI Tryz.prog 44=some t1:=by kernel_rfl
theorem ty45:tyI Tryz.prog 45=some t45:=by kernel_rfl
theorem ty46:tyI Tryz.prog 46=some t45:=by kernel_rfl
theorem ty47:tyI Tryz.prog 47=some t1:=by kernel_rfl
theorem ty48:tyI Tryz.prog 48=some t0:=by kernel_rfl
theorem ty49:tyI Tryz.prog 49=some t1:=by kernel_rfl
theorem ty50:tyI Tryz.prog 50=some t1:=by kernel_rfl
theorem ty51:tyI Tryz.prog 51=some t1:=by kernel_rfl
theorem ty52:tyI Tryz.prog 52=some t1:=by kernel_rfl
theorem ty53:tyI Tryz.prog 53=some t1:=by kernel_rfl
theorem ty54:tyI Tryz.prog 54=some t1:=by kernel_rfl
theorem ty55:tyI Tryz.prog 55=some t1:=by kernel_rfl
theorem ty56:tyI Tryz.prog 56=some t1:=by kernel_rfl
theorem ty57:tyI Tryz.prog 57=some t1:=by kernel_rfl
theorem ty58:tyI Tryz.prog 58=some t1:=by kernel_rfl
theorem ty59:tyI Tryz.prog 59=some t1:=by kernel_rfl
theorem ty60:tyI Tryz.prog 60=some t0:=by kernel_rfl
theorem ty61:tyI Tryz.prog 61=some t1:=by kernel_rfl
theorem ty62:tyI Tryz.prog 62=some t1:=by kernel_rfl
theorem ty63:tyI Tryz.prog 63=some t1:=by kernel_rfl
theorem ty64:tyI Tryz.prog 64=some t1:=by kernel_rfl
theorem ty65:tyI Tryz.prog 65=some t65:=by kernel_rfl
theorem ty66:tyI Tryz.prog 66=some t65:=by kernel_rfl
theorem ty67:tyI Tryz.prog 67=some t1:=by kernel_rfl
theorem ty68:tyI Tryz.prog 68=some t1:=by kernel_rfl
theorem ty69:tyI Tryz.prog 69=some t0:=by kernel_rfl
theorem ty70:tyI Tryz.prog 70=some t1:=by kernel_rfl
theorem ty71:tyI Tryz.prog 71=some t1:=by kernel_rfl
theorem ty72:tyI Tryz.prog 72=some t1:=by kernel_rfl
theorem ty73:tyI Tryz.prog 73=some t1:=by kernel_rfl
theorem ty74:tyI Tryz.prog 74=some t1:=by kernel_rfl
theorem ty75:tyI Tryz.prog 75=some t1:=by kernel_rfl
theorem ty76:tyI Tryz.prog 76=some t1:=by kernel_rfl
theorem ty77:tyI Tryz.prog 77=some t1:=by kernel_rfl
theorem ty78:tyI Tryz.prog 78=some t78:=by kernel_rfl
theorem ty79:tyI Tryz.prog 79=some t78:=by kernel_rfl
theorem ty80:tyI Tryz.prog 80=some t1:=by kernel_rfl
theorem ty81:tyI Tryz.prog 81=some t1:=by kernel_rfl
theorem ty82:tyI Tryz.prog 82=some t1:=by kernel_rfl
theorem ty83:tyI Tryz.prog 83=some t83:=by kernel_rfl
theorem ty84:tyI Tryz.prog 84=some t83:=by kernel_rfl
theorem ty85:tyI Tryz.prog 85=some t1:=by kernel_rfl
theorem ty86:tyI Tryz.prog 86=some t1:=by kernel_rfl
theorem ty87:tyI Tryz.prog 87=some t1:=by kernel_rfl
theorem ty88:tyI Tryz.prog 88=some t1:=by kernel_rfl
theorem ty89:tyI Tryz.prog 89=some t1:=by kernel_rfl
theorem ty90:tyI Tryz.prog 90=some t1:=by kernel_rfl
theorem ty91:tyI Tryz.prog 91=some t1:=by kernel_rfl
theorem ty92:tyI Tryz.prog 92=some t1:=by kernel_rfl
theorem ty93:tyI Tryz.prog 93=some t93:=by kernel_rfl
theorem ty94:tyI Tryz.prog 94=some t0:=by kernel_rfl
theorem ty95:tyI Tryz.prog 95=some t1:=by kernel_rfl
theorem ty96:tyI Tryz.prog 96=some t1:=by kernel_rfl
theorem ty97:tyI Tryz.prog 97=some t1:=by kernel_rfl
theorem ty98:tyI Tryz.prog 98=some t1:=by kernel_rfl
theorem ty99:tyI Tryz.prog 99=some t1:=by kernel_rfl
theorem GO:tyI Tryz.prog 100=some t1:=by kernel_rfl
theorem GP:tyI Tryz.prog 101=some t1:=by kernel_rfl
theorem GQ:tyI Tryz.prog 102=some t1:=by kernel_rfl
theorem GR:tyI Tryz.prog 103=some t103:=by kernel_rfl
theorem GS:tyI Tryz.prog 104=some t0:=by kernel_rfl
theorem GU:tyI Tryz.prog 105=some t1:=by kernel_rfl
theorem GV:tyI Tryz.prog 106=some t106:=by kernel_rfl
theorem GW:tyI Tryz.prog 107=some t0:=by kernel_rfl
theorem GX:tyI Tryz.prog 108=some t1:=by kernel_rfl
theorem GY:tyI Tryz.prog 109=some t109:=by kernel_rfl
theorem GZ:tyI Tryz.prog 110=some t0:=by kernel_rfl
theorem H3:tyI Tryz.prog 111=some t1:=by kernel_rfl
theorem H4:tyI Tryz.prog 112=some t1:=by kernel_rfl
theorem H5:tyI Tryz.prog 113=some t1:=by kernel_rfl
theorem H6:tyI Tryz.prog 114=some t1:=by kernel_rfl
theorem H7:tyI Tryz.prog 115=some t1:=by kernel_rfl
theorem H8:tyI Tryz.prog 116=some t1:=by kernel_rfl
theorem H9:tyI Tryz.prog 117=some t1:=by kernel_rfl
theorem Hi:tyI Tryz.prog 118=some t1:=by kernel_rfl
theorem Hj:tyI Tryz.prog 119=some t119:=by kernel_rfl
theorem Hv:tyI Tryz.prog 120=some t119:=by kernel_rfl
theorem Hw:tyI Tryz.prog 121=some t0:=by kernel_rfl
theorem Hy:tyI Tryz.prog 122=some t1:=by kernel_rfl
theorem HK:tyI Tryz.prog 123=some t1:=by kernel_rfl
theorem I0:tyI Tryz.prog 124=some t124:=by kernel_rfl
theorem I1:tyI Tryz.prog 125=some t125:=by kernel_rfl
theorem I2:tyI Tryz.prog 126=some t125:=by kernel_rfl
theorem I3:tyI Tryz.prog 127=some t127:=by kernel_rfl
theorem I4:tyI Tryz.prog 128=some t127:=by kernel_rfl
theorem I5:tyI Tryz.prog 129=some t0:=by kernel_rfl
theorem I6:tyI Tryz.prog 130=some t1:=by kernel_rfl
theorem I7:tyI Tryz.prog 131=some t1:=by kernel_rfl
theorem I8:tyI Tryz.prog 132=some t1:=by kernel_rfl
theorem I9:tyI Tryz.prog 133=some t1:=by kernel_rfl
theorem Ia:tyI Tryz.prog 134=some t0:=by kernel_rfl
theorem Ib:tyI Tryz.prog 135=some t1:=by kernel_rfl
theorem Ic:tyI Tryz.prog 136=some t1:=by kernel_rfl
theorem Ie:tyI Tryz.prog 137=some t1:=by kernel_rfl
theorem Ig:tyI Tryz.prog 138=some t1:=by kernel_rfl
theorem Ih:tyI Tryz.prog 139=some t0:=by kernel_rfl
theorem Ii:tyI Tryz.prog 140=some t1:=by kernel_rfl
theorem Ij:tyI Tryz.prog 141=some t1:=by kernel_rfl
theorem Ik:tyI Tryz.prog 142=some t1:=by kernel_rfl
theorem Il:tyI Tryz.prog 143=some t1:=by kernel_rfl
theorem Im:tyI Tryz.prog 144=some t1:=by kernel_rfl
theorem Io:tyI Tryz.prog 145=some t1:=by kernel_rfl
theorem Ip:tyI Tryz.prog 146=some t1:=by kernel_rfl
theorem Iq:tyI Tryz.prog 147=some t1:=by kernel_rfl
theorem Ir:tyI Tryz.prog 148=some t1:=by kernel_rfl
theorem Is:tyI Tryz.prog 149=some t1:=by kernel_rfl
theorem It:tyI Tryz.prog 150=some t1:=by kernel_rfl
theorem Iu:tyI Tryz.prog 151=some t1:=by kernel_rfl
theorem Iv:tyI Tryz.prog 152=some t152:=by kernel_rfl
theorem Iw:tyI Tryz.prog 153=some t152:=by kernel_rfl
theorem Ix:tyI Tryz.prog 154=some t1:=by kernel_rfl
theorem Iy:tyI Tryz.prog 155=some t1:=by kernel_rfl
theorem Iz:tyI Tryz.prog 156=some t1:=by kernel_rfl
theorem IA:tyI Tryz.prog 157=some t1:=by kernel_rfl
theorem IB:tyI Tryz.prog 158=some t1:=by kernel_rfl
theorem IC:tyI Tryz.prog 159=some t0:=by kernel_rfl
theorem ID:tyI Tryz.prog 160=some t1:=by kernel_rfl
theorem IE:tyI Tryz.prog 161=some t1:=by kernel_rfl
theorem IF:tyI Tryz.prog 162=some t1:=by kernel_rfl
theorem IG:tyI Tryz.prog 163=some t1:=by kernel_rfl
theorem IH:tyI Tryz.prog 164=some t1:=by kernel_rfl
theorem II:tyI Tryz.prog 165=some t1:=by kernel_rfl
theorem IJ:tyI Tryz.prog 166=some t0:=by kernel_rfl
theorem IK:tyI Tryz.prog 167=some t1:=by kernel_rfl
theorem IL:tyI Tryz.prog 168=some t1:=by kernel_rfl
theorem IM:tyI Tryz.prog 169=some t169:=by kernel_rfl
theorem IN:tyI Tryz.prog 170=some t169:=by kernel_rfl
theorem IP:tyI Tryz.prog 171=some t0:=by kernel_rfl
theorem IQ:tyI Tryz.prog 172=some t1:=by kernel_rfl
theorem IS:tyI Tryz.prog 173=some t1:=by kernel_rfl
theorem IT:tyI Tryz.prog 174=some t1:=by kernel_rfl
theorem IU:tyI Tryz.prog 175=some t1:=by kernel_rfl
theorem IV:tyI Tryz.prog 176=some t1:=by kernel_rfl
theorem IW:tyI Tryz.prog 177=some t1:=by kernel_rfl
theorem IX:tyI Tryz.prog 178=some t1:=by kernel_rfl
theorem IY:tyI Tryz.prog 179=some t1:=by kernel_rfl
theorem IZ:tyI Tryz.prog 180=some t1:=by kernel_rfl
theorem J0:tyI Tryz.prog 181=some t181:=by kernel_rfl
theorem J1:tyI Tryz.prog 182=some t0:=by kernel_rfl
theorem J2:tyI Tryz.prog 183=some t1:=by kernel_rfl
theorem J3:tyI Tryz.prog 184=some t184:=by kernel_rfl
theorem J4:tyI Tryz.prog 185=some t1:=by kernel_rfl
theorem J5:tyI Tryz.prog 186=some t1:=by kernel_rfl
theorem J6:tyI Tryz.prog 187=some t1:=by kernel_rfl
theorem J7:tyI Tryz.prog 188=some t1:=by kernel_rfl
theorem J8:tyI Tryz.prog 189=some t1:=by kernel_rfl
theorem J9:tyI Tryz.prog 190=some t1:=by kernel_rfl
theorem Ja:tyI Tryz.prog 191=some t0:=by kernel_rfl
theorem Jb:tyI Tryz.prog 192=some t1:=by kernel_rfl
theorem Jc:tyI Tryz.prog 193=some t0:=by kernel_rfl
theorem Jd:tyI Tryz.prog 194=some t1:=by kernel_rfl
theorem Je:tyI Tryz.prog 195=some t1:=by kernel_rfl
theorem Jf:tyI Tryz.prog 196=some t0:=by kernel_rfl
theorem Jg:tyI Tryz.prog 197=some t1:=by kernel_rfl
theorem Jh:tyI Tryz.prog 198=some t198:=by kernel_rfl
theorem Ji:tyI Tryz.prog 199=some t199:=by kernel_rfl
theorem Jj:tyI Tryz.prog 200=some t199:=by kernel_rfl
theorem Jk:tyI Tryz.prog 201=some t1:=by kernel_rfl
theorem Jl:tyI Tryz.prog 202=some t1:=by kernel_rfl
theorem Jm:tyI Tryz.prog 203=some t0:=by kernel_rfl
theorem Jo:tyI Tryz.prog 204=some t1:=by kernel_rfl
theorem Jp:tyI Tryz.prog 205=some t0:=by kernel_rfl
theorem Jq:tyI Tryz.prog 206=some t1:=by kernel_rfl
theorem Jr:tyI Tryz.prog 207=some t1:=by kernel_rfl
theorem Js:tyI Tryz.prog 208=some t0:=by kernel_rfl
theorem Jt:tyI Tryz.prog 209=some t1:=by kernel_rfl
theorem Ju:tyI Tryz.prog 210=some t1:=by kernel_rfl
theorem Jv:tyI Tryz.prog 211=some t0:=by kernel_rfl
theorem Jw:tyI Tryz.prog 212=some t1:=by kernel_rfl
theorem Jx:tyI Tryz.prog 213=some t1:=by kernel_rfl
theorem Jy:tyI Tryz.prog 214=some t1:=by kernel_rfl
theorem Jz:tyI Tryz.prog 215=some t1:=by kernel_rfl
theorem JA:tyI Tryz.prog 216=some t1:=by kernel_rfl
theorem JB:tyI Tryz.prog 217=some t1:=by kernel_rfl
theorem JC:tyI Tryz.prog 218=some t218:=by kernel_rfl
theorem JD:tyI Tryz.prog 219=some t1:=by kernel_rfl
theorem JE:tyI Tryz.prog 220=some t1:=by kernel_rfl
theorem JF:tyI Tryz.prog 221=some t0:=by kernel_rfl
theorem JG:tyI Tryz.prog 222=some t1:=by kernel_rfl
theorem JH:tyI Tryz.prog 223=some t1:=by kernel_rfl
theorem JI:tyI Tryz.prog 224=some t0:=by kernel_rfl
theorem JJ:tyI Tryz.prog 225=some t1:=by kernel_rfl
theorem JK:tyI Tryz.prog 226=some t226:=by kernel_rfl
theorem JL:tyI Tryz.prog 227=some t127:=by kernel_rfl
theorem JM:tyI Tryz.prog 228=some t127:=by kernel_rfl
theorem JN:tyI Tryz.prog 229=some t1:=by kernel_rfl
theorem JO:tyI Tryz.prog 230=some t1:=by kernel_rfl
theorem JP:tyI Tryz.prog 231=some t1:=by kernel_rfl
theorem JQ:tyI Tryz.prog 232=some t1:=by kernel_rfl
theorem JR:tyI Tryz.prog 233=some t1:=by kernel_rfl
theorem JS:tyI Tryz.prog 234=some t0:=by kernel_rfl
theorem JT:tyI Tryz.prog 235=some t1:=by kernel_rfl
theorem JU:tyI Tryz.prog 236=some t1:=by kernel_rfl
theorem JV:tyI Tryz.prog 237=some t1:=by kernel_rfl
theorem JW:tyI Tryz.prog 238=some t238:=by kernel_rfl
theorem JX:tyI Tryz.prog 239=some t1:=by kernel_rfl
theorem JY:tyI Tryz.prog 240=some t240:=by kernel_rfl
theorem JZ:tyI Tryz.prog 241=some t1:=by kernel_rfl
theorem K0:tyI Tryz.prog 242=some t12:=by kernel_rfl
theorem K1:tyI Tryz.prog 243=some t243:=by kernel_rfl
theorem K2:tyI Tryz.prog 244=some t0:=by kernel_rfl
theorem K3:tyI Tryz.prog 245=some t245:=by kernel_rfl
theorem K4:tyI Tryz.prog 246=some t0:=by kernel_rfl
theorem K6:tyI Tryz.prog 247=some t1:=by kernel_rfl
theorem K7:tyI Tryz.prog 248=some t1:=by kernel_rfl
theorem K8:tyI Tryz.prog 249=some t0:=by kernel_rfl
theorem K9:tyI Tryz.prog 250=some t1:=by kernel_rfl
theorem Ka:tyI Tryz.prog 251=some t1:=by kernel_rfl
theorem Kb:tyI Tryz.prog 252=some t1:=by kernel_rfl
theorem Kc:tyI Tryz.prog 253=some t1:=by kernel_rfl
theorem Kd:tyI Tryz.prog 254=some t12:=by kernel_rfl
theorem Ke:tyI Tryz.prog 255=some t1:=by kernel_rfl
theorem Kf:tyI Tryz.prog 256=some t1:=by kernel_rfl
theorem Kg:tyI Tryz.prog 257=some t0:=by kernel_rfl
theorem Kh:tyI Tryz.prog 258=some t1:=by kernel_rfl
theorem Ki:tyI Tryz.prog 259=some t0:=by kernel_rfl
theorem Kj:tyI Tryz.prog 260=some t1:=by kernel_rfl
theorem Kk:tyI Tryz.prog 261=some t1:=by kernel_rfl
theorem Kl:tyI Tryz.prog 262=some t1:=by kernel_rfl
theorem Km:tyI Tryz.prog 263=some t1:=by kernel_rfl
theorem Kn:tyI Tryz.prog 264=some t1:=by kernel_rfl
theorem Ko:tyI Tryz.prog 265=some t1:=by kernel_rfl
theorem Kp:tyI Tryz.prog 266=some t0:=by kernel_rfl
theorem Kq:tyI Tryz.prog 267=some t1:=by kernel_rfl
theorem Kr:tyI Tryz.prog 268=some t1:=by kernel_rfl
theorem Ks:tyI Tryz.prog 269=some t1:=by kernel_rfl
theorem Kt:tyI Tryz.prog 270=some t270:=by kernel_rfl
theorem Ku:tyI Tryz.prog 271=some t271:=by kernel_rfl
theorem Kv:tyI Tryz.prog 272=some t1:=by kernel_rfl
theorem Kw:tyI Tryz.prog 273=some t1:=by kernel_rfl
theorem Kx:tyI Tryz.prog 274=some t1:=by kernel_rfl
theorem Ky:tyI Tryz.prog 275=some t275:=by kernel_rfl
theorem Kz:tyI Tryz.prog 276=some t1:=by kernel_rfl
theorem KA:tyI Tryz.prog 277=some t1:=by kernel_rfl
theorem KB:tyI Tryz.prog 278=some t1:=by kernel_rfl
theorem KC:tyI Tryz.prog 279=some t279:=by kernel_rfl
theorem KD:tyI Tryz.prog 280=some t279:=by kernel_rfl
theorem KE:tyI Tryz.prog 281=some t1:=by kernel_rfl
theorem KF:tyI Tryz.prog 282=some t282:=by kernel_rfl
theorem KG:tyI Tryz.prog 283=some t1:=by kernel_rfl
theorem KH:tyI Tryz.prog 284=some t1:=by kernel_rfl
theorem KJ:tyI Tryz.prog 285=some t1:=by kernel_rfl
theorem KK:tyI Tryz.prog 286=some t1:=by kernel_rfl
theorem KL:tyI Tryz.prog 287=some t1:=by kernel_rfl
theorem KM:tyI Tryz.prog 288=some t288:=by kernel_rfl
theorem KN:tyI Tryz.prog 289=some t289:=by kernel_rfl
theorem KO:tyI Tryz.prog 290=some t1:=by kernel_rfl
theorem KP:tyI Tryz.prog 291=some t1:=by kernel_rfl
theorem KQ:tyI Tryz.prog 292=some t1:=by kernel_rfl
theorem KR:tyI Tryz.prog 293=some t1:=by kernel_rfl
theorem KS:tyI Tryz.prog 294=some t0:=by kernel_rfl
theorem KT:tyI Tryz.prog 295=some t1:=by kernel_rfl
theorem KU:tyI Tryz.prog 296=some t1:=by kernel_rfl
theorem KV:tyI Tryz.prog 297=some t1:=by kernel_rfl
theorem KW:tyI Tryz.prog 298=some t1:=by kernel_rfl
theorem KX:tyI Tryz.prog 299=some t1:=by kernel_rfl
theorem KY:tyI Tryz.prog 300=some t1:=by kernel_rfl
theorem KZ:tyI Tryz.prog 301=some t301:=by kernel_rfl
theorem L0:tyI Tryz.prog 302=some t301:=by kernel_rfl
theorem L4:tyI Tryz.prog 303=some t0:=by kernel_rfl
theorem L5:tyI Tryz.prog 304=some t1:=by kernel_rfl
theorem L6:tyI Tryz.prog 305=some t305:=by kernel_rfl
theorem L7:tyI Tryz.prog 306=some t306:=by kernel_rfl
theorem L8:tyI Tryz.prog 307=some t307:=by kernel_rfl
theorem L9:tyI Tryz.prog 308=some t307:=by kernel_rfl
theorem La:tyI Tryz.prog 309=some t0:=by kernel_rfl
theorem Lb:tyI Tryz.prog 310=some t1:=by kernel_rfl
theorem Lc:tyI Tryz.prog 311=some t1:=by kernel_rfl
theorem Ld:tyI Tryz.prog 312=some t0:=by kernel_rfl
theorem Le:tyI Tryz.prog 313=some t1:=by kernel_rfl
theorem Lf:tyI Tryz.prog 314=some t1:=by kernel_rfl
theorem Lg:tyI Tryz.prog 315=some t315:=by kernel_rfl
theorem Lh:tyI Tryz.prog 316=some t1:=by kernel_rfl
theorem Li:tyI Tryz.prog 317=some t0:=by kernel_rfl
theorem Lj:tyI Tryz.prog 318=some t1:=by kernel_rfl
theorem Lk:tyI Tryz.prog 319=some t1:=by kernel_rfl
theorem Ll:tyI Tryz.prog 320=some t320:=by kernel_rfl
theorem Lm:tyI Tryz.prog 321=some t1:=by kernel_rfl
theorem Ln:tyI Tryz.prog 322=some t322:=by kernel_rfl
theorem Lo:tyI Tryz.prog 323=some t323:=by kernel_rfl
theorem Lp:tyI Tryz.prog 324=some t1:=by kernel_rfl
theorem Lr:tyI Tryz.prog 325=some t1:=by kernel_rfl
theorem Ls:tyI Tryz.prog 326=some t326:=by kernel_rfl
theorem Lt:tyI Tryz.prog 327=some t1:=by kernel_rfl
theorem Lu:tyI Tryz.prog 328=some t1:=by kernel_rfl
theorem Lv:tyI Tryz.prog 329=some t1:=by kernel_rfl
theorem Lw:tyI Tryz.prog 330=some t330:=by kernel_rfl
theorem Lx:tyI Tryz.prog 331=some t331:=by kernel_rfl
theorem Ly:tyI Tryz.prog 332=some t332:=by kernel_rfl
theorem Lz:tyI Tryz.prog 333=some t333:=by kernel_rfl
theorem LA:tyI Tryz.prog 334=some t333:=by kernel_rfl
theorem LB:tyI Tryz.prog 335=some t335:=by kernel_rfl
theorem LC:tyI Tryz.prog 336=some t336:=by kernel_rfl
theorem LD:tyI Tryz.prog 337=some t336:=by kernel_rfl
theorem LF:tyI Tryz.prog 338=some t5:=by kernel_rfl
theorem LG:tyI Tryz.prog 339=some t5:=by kernel_rfl
theorem LH:tyI Tryz.prog 340=some t1:=by kernel_rfl
theorem LI:tyI Tryz.prog 341=some t21:=by kernel_rfl
theorem LJ:tyI Tryz.prog 342=some t21:=by kernel_rfl
theorem LK:tyI Tryz.prog 343=some t343:=by kernel_rfl
theorem LL:tyI Tryz.prog 344=some t343:=by kernel_rfl
theorem LM:tyI Tryz.prog 345=some t345:=by kernel_rfl
theorem LN:tyI Tryz.prog 346=some t345:=by kernel_rfl
theorem C0:Tr.Fa (fun t ti=>tyI Tryz.prog t=some ti) tyT:=
 ⟨ty0,⟨ty1,⟨ty3,⟨ty7,⟨ty15,⟨ty31,⟨ty63,⟨I3,⟨Ke,o,o⟩,o⟩,⟨Ja,⟨Lk,o,o⟩,o⟩⟩,⟨ty95,⟨IC,⟨KL,o,o⟩,o⟩,⟨JH,o,o⟩⟩⟩,⟨ty47,⟨ty79,⟨Il,⟨Ku,o,o⟩,o⟩,⟨Jr,⟨LB,o,o⟩,o⟩⟩,⟨H3,⟨IU,⟨L4,o,o⟩,o⟩,⟨JX,o,o⟩⟩⟩⟩,⟨ty23,⟨ty39,⟨ty71,⟨Ib,⟨Km,o,o⟩,o⟩,⟨Ji,⟨Lt,o,o⟩,o⟩⟩,⟨GR,⟨IK,⟨KT,o,o⟩,o⟩,⟨JP,o,o⟩⟩⟩,⟨ty55,⟨ty87,⟨Iu,⟨KC,o,o⟩,o⟩,⟨Jz,⟨LK,o,o⟩,o⟩⟩,⟨Hj,⟨J2,⟨Lc,o,o⟩,o⟩,⟨K6,o,o⟩⟩⟩⟩⟩,⟨ty11,⟨ty19,⟨ty35,⟨ty67,⟨I7,⟨Ki,o,o⟩,o⟩,⟨Je,⟨Lo,o,o⟩,o⟩⟩,⟨ty99,⟨IG,⟨KP,o,o⟩,o⟩,⟨JL,o,o⟩⟩⟩,⟨ty51,⟨ty83,⟨Iq,⟨Ky,o,o⟩,o⟩,⟨Jv,⟨LG,o,o⟩,o⟩⟩,⟨H7,⟨IY,⟨L8,o,o⟩,o⟩,⟨K1,o,o⟩⟩⟩⟩,⟨ty27,⟨ty43,⟨ty75,⟨Ih,⟨Kq,o,o⟩,o⟩,⟨Jm,⟨Lx,o,o⟩,o⟩⟩,⟨GW,⟨IP,⟨KX,o,o⟩,o⟩,⟨JT,o,o⟩⟩⟩,⟨ty59,⟨ty91,⟨Iy,⟨KG,o,o⟩,o⟩,⟨JD,o,o⟩⟩,⟨HK,⟨J6,⟨Lg,o,o⟩,o⟩,⟨Ka,o,o⟩⟩⟩⟩⟩⟩,⟨ty5,⟨ty9,⟨ty17,⟨ty33,⟨ty65,⟨I5,⟨Kg,o,o⟩,o⟩,⟨Jc,⟨Lm,o,o⟩,o⟩⟩,⟨ty97,⟨IE,⟨KN,o,o⟩,o⟩,⟨JJ,o,o⟩⟩⟩,⟨ty49,⟨ty81,⟨Io,⟨Kw,o,o⟩,o⟩,⟨Jt,⟨LD,o,o⟩,o⟩⟩,⟨H5,⟨IW,⟨L6,o,o⟩,o⟩,⟨JZ,o,o⟩⟩⟩⟩,⟨ty25,⟨ty41,⟨ty73,⟨Ie,⟨Ko,o,o⟩,o⟩,⟨Jk,⟨Lv,o,o⟩,o⟩⟩,⟨GU,⟨IM,⟨KV,o,o⟩,o⟩,⟨JR,o,o⟩⟩⟩,⟨ty57,⟨ty89,⟨Iw,⟨KE,o,o⟩,o⟩,⟨JB,⟨LM,o,o⟩,o⟩⟩,⟨Hw,⟨J4,⟨Le,o,o⟩,o⟩,⟨K8,o,o⟩⟩⟩⟩⟩,⟨ty13,⟨ty21,⟨ty37,⟨ty69,⟨I9,⟨Kk,o,o⟩,o⟩,⟨Jg,⟨Lr,o,o⟩,o⟩⟩,⟨GP,⟨II,⟨KR,o,o⟩,o⟩,⟨JN,o,o⟩⟩⟩,⟨ty53,⟨ty85,⟨Is,⟨KA,o,o⟩,o⟩,⟨Jx,⟨LI,o,o⟩,o⟩⟩,⟨H9,⟨J0,⟨La,o,o⟩,o⟩,⟨K3,o,o⟩⟩⟩⟩,⟨ty29,⟨ty45,⟨ty77,⟨Ij,⟨Ks,o,o⟩,o⟩,⟨Jp,⟨Lz,o,o⟩,o⟩⟩,⟨GY,⟨IS,⟨KZ,o,o⟩,o⟩,⟨JV,o,o⟩⟩⟩,⟨ty61,⟨ty93,⟨IA,⟨KJ,o,o⟩,o⟩,⟨JF,o,o⟩⟩,⟨I1,⟨J8,⟨Li,o,o⟩,o⟩,⟨Kc,o,o⟩⟩⟩⟩⟩⟩⟩,⟨ty2,⟨ty4,⟨ty8,⟨ty16,⟨ty32,⟨ty64,⟨I4,⟨Kf,o,o⟩,o⟩,⟨Jb,⟨Ll,o,o⟩,o⟩⟩,⟨ty96,⟨ID,⟨KM,o,o⟩,o⟩,⟨JI,o,o⟩⟩⟩,⟨ty48,⟨ty80,⟨Im,⟨Kv,o,o⟩,o⟩,⟨Js,⟨LC,o,o⟩,o⟩⟩,⟨H4,⟨IV,⟨L5,o,o⟩,o⟩,⟨JY,o,o⟩⟩⟩⟩,⟨ty24,⟨ty40,⟨ty72,⟨Ic,⟨Kn,o,o⟩,o⟩,⟨Jj,⟨Lu,o,o⟩,o⟩⟩,⟨GS,⟨IL,⟨KU,o,o⟩,o⟩,⟨JQ,o,o⟩⟩⟩,⟨ty56,⟨ty88,⟨Iv,⟨KD,o,o⟩,o⟩,⟨JA,⟨LL,o,o⟩,o⟩⟩,⟨Hv,⟨J3,⟨Ld,o,o⟩,o⟩,⟨K7,o,o⟩⟩⟩⟩⟩,⟨ty12,⟨ty20,⟨ty36,⟨ty68,⟨I8,⟨Kj,o,o⟩,o⟩,⟨Jf,⟨Lp,o,o⟩,o⟩⟩,⟨GO,⟨IH,⟨KQ,o,o⟩,o⟩,⟨JM,o,o⟩⟩⟩,⟨ty52,⟨ty84,⟨Ir,⟨Kz,o,o⟩,o⟩,⟨Jw,⟨LH,o,o⟩,o⟩⟩,⟨H8,⟨IZ,⟨L9,o,o⟩,o⟩,⟨K2,o,o⟩⟩⟩⟩,⟨ty28,⟨ty44,⟨ty76,⟨Ii,⟨Kr,o,o⟩,o⟩,⟨Jo,⟨Ly,o,o⟩,o⟩⟩,⟨GX,⟨IQ,⟨KY,o,o⟩,o⟩,⟨JU,o,o⟩⟩⟩,⟨ty60,⟨ty92,⟨Iz,⟨KH,o,o⟩,o⟩,⟨JE,o,o⟩⟩,⟨I0,⟨J7,⟨Lh,o,o⟩,o⟩,⟨Kb,o,o⟩⟩⟩⟩⟩⟩,⟨ty6,⟨ty10,⟨ty18,⟨ty34,⟨ty66,⟨I6,⟨Kh,o,o⟩,o⟩,⟨Jd,⟨Ln,o,o⟩,o⟩⟩,⟨ty98,⟨IF,⟨KO,o,o⟩,o⟩,⟨JK,o,o⟩⟩⟩,⟨ty50,⟨ty82,⟨Ip,⟨Kx,o,o⟩,o⟩,⟨Ju,⟨LF,o,o⟩,o⟩⟩,⟨H6,⟨IX,⟨L7,o,o⟩,o⟩,⟨K0,o,o⟩⟩⟩⟩,⟨ty26,⟨ty42,⟨ty74,⟨Ig,⟨Kp,o,o⟩,o⟩,⟨Jl,⟨Lw,o,o⟩,o⟩⟩,⟨GV,⟨IN,⟨KW,o,o⟩,o⟩,⟨JS,o,o⟩⟩⟩,⟨ty58,⟨ty90,⟨Ix,⟨KF,o,o⟩,o⟩,⟨JC,⟨LN,o,o⟩,o⟩⟩,⟨Hy,⟨J5,⟨Lf,o,o⟩,o⟩,⟨K9,o,o⟩⟩⟩⟩⟩,⟨ty14,⟨ty22,⟨ty38,⟨ty70,⟨Ia,⟨Kl,o,o⟩,o⟩,⟨Jh,⟨Ls,o,o⟩,o⟩⟩,⟨GQ,⟨IJ,⟨KS,o,o⟩,o⟩,⟨JO,o,o⟩⟩⟩,⟨ty54,⟨ty86,⟨It,⟨KB,o,o⟩,o⟩,⟨Jy,⟨LJ,o,o⟩,o⟩⟩,⟨Hi,⟨J1,⟨Lb,o,o⟩,o⟩,⟨K4,o,o⟩⟩⟩⟩,⟨ty30,⟨ty46,⟨ty78,⟨Ik,⟨Kt,o,o⟩,o⟩,⟨Jq,⟨LA,o,o⟩,o⟩⟩,⟨GZ,⟨IT,⟨L0,o,o⟩,o⟩,⟨JW,o,o⟩⟩⟩,⟨ty62,⟨ty94,⟨IB,⟨KK,o,o⟩,o⟩,⟨JG,o,o⟩⟩,⟨I2,⟨J9,⟨Lj,o,o⟩,o⟩,⟨Kd,o,o⟩⟩⟩⟩⟩⟩⟩⟩
theorem fo12:FnI Tryz.prog 12 g12:=FnI.of Tryz.func12 rfl Tryz.ntmps12 rfl (by kernel_rfl) (by kernel_rfl)
theorem fo29:FnI Tryz.prog 29 g29:=FnI.of Tryz.func29 rfl Tryz.ntmps29 rfl (by kernel_rfl) (by kernel_rfl)
theorem fo30:FnI Tryz.prog 30 g30:=FnI.of Tryz.func30 rfl Tryz.ntmps30 rfl (by kernel_rfl) (by kernel_rfl)
theorem fo36:FnI Tryz.prog 36 g36:=FnI.of Tryz.func36 rfl Tryz.ntmps36 rfl (by kernel_rfl) (by kernel_rfl)
theorem fo42:FnI Tryz.prog 42 g42:=FnI.of Tryz.func42 rfl Tryz.ntmps42 rfl (by kernel_rfl) (by kernel_rfl)
theorem fo48:FnI Tryz.prog 48 g48:=FnI.of Tryz.func48 rfl Tryz.ntmps48 rfl (by kernel_rfl) (by kernel_rfl)
theorem fo49:FnI Tryz.prog 49 g49:=FnI.of Tryz.func49 rfl Tryz.ntmps49 rfl (by kernel_rfl) (by kernel_rfl)
theorem fo50:FnI Tryz.prog 50 g50:=FnI.of Tryz.func50 rfl Tryz.ntmps50 rfl (by kernel_rfl) (by kernel_rfl)
theorem fo59:FnI Tryz.prog 59 g59:=FnI.of Tryz.func59 rfl Tryz.ntmps59 rfl (by kernel_rfl) (by kernel_rfl)
theorem fo60:FnI Tryz.prog 60 g60:=FnI.of Tryz.func60 rfl Tryz.ntmps60 rfl (by kernel_rfl) (by kernel_rfl)
theorem fo62:FnI Tryz.prog 62 g62:=FnI.of Tryz.func62 rfl Tryz.ntmps62 rfl (by kernel_rfl) (by kernel_rfl)
theorem fo74:FnI Tryz.prog 74 g74:=FnI.of Tryz.func74 rfl Tryz.ntmps74 rfl (by kernel_rfl) (by kernel_rfl)
theorem fo78:FnI Tryz.prog 78 g78:=FnI.of Tryz.func78 rfl Tryz.ntmps78 rfl (by kernel_rfl) (by kernel_rfl)
theorem fo83:FnI Tryz.prog 83 g83:=FnI.of Tryz.func83 rfl Tryz.ntmps83 rfl (by kernel_rfl) (by kernel_rfl)
theorem fo84:FnI Tryz.prog 84 g84:=FnI.of Tryz.func84 rfl Tryz.ntmps84 rfl (by kernel_rfl) (by kernel_rfl)
theorem fo85:FnI Tryz.prog 85 g85:=FnI.of Tryz.func85 rfl Tryz.ntmps85 rfl (by kernel_rfl) (by kernel_rfl)
theorem fo86:FnI Tryz.prog 86 g86:=FnI.of Tryz.func86 rfl Tryz.ntmps86 rfl (by kernel_rfl) (by kernel_rfl)
theorem fo87:FnI Tryz.prog 87 g87:=FnI.of Tryz.func87 rfl Tryz.ntmps87 rfl (by kernel_rfl) (by kernel_rfl)
theorem fo88:FnI Tryz.prog 88 g88:=FnI.of Tryz.func88 rfl Tryz.ntmps88 rfl (by kernel_rfl) (by kernel_rfl)
theorem fo89:FnI Tryz.prog 89 g89:=FnI.of Tryz.func89 rfl Tryz.ntmps89 rfl (by kernel_rfl) (by kernel_rfl)
theorem fo90:FnI Tryz.prog 90 g90:=FnI.of Tryz.func90 rfl Tryz.ntmps90 rfl (by kernel_rfl) (by kernel_rfl)
theorem fo91:FnI Tryz.prog 91 g91:=FnI.of Tryz.func91 rfl Tryz.ntmps91 rfl (by kernel_rfl) (by kernel_rfl)
theorem fo92:FnI Tryz.prog 92 g92:=FnI.of Tryz.func92 rfl Tryz.ntmps92 rfl (by kernel_rfl) (by kernel_rfl)
theorem fo93:FnI Tryz.prog 93 g93:=FnI.of Tryz.func93 rfl Tryz.ntmps93 rfl (by kernel_rfl) (by kernel_rfl)
theorem fo94:FnI Tryz.prog 94 g94:=FnI.of Tryz.func94 rfl Tryz.ntmps94 rfl (by kernel_rfl) (by kernel_rfl)
theorem fo95:FnI Tryz.prog 95 g95:=FnI.of Tryz.func95 rfl Tryz.ntmps95 rfl (by kernel_rfl) (by kernel_rfl)
theorem C8:FnI Tryz.prog 100 Ej:=FnI.of Tryz.func100 rfl Tryz.ntmps100 rfl (by kernel_rfl) (by kernel_rfl)
theorem C9:FnI Tryz.prog 102 Ek:=FnI.of Tryz.func102 rfl Tryz.ntmps102 rfl (by kernel_rfl) (by kernel_rfl)
theorem Ca:FnI Tryz.prog 103 El:=FnI.of Tryz.func103 rfl Tryz.ntmps103 rfl (by kernel_rfl) (by kernel_rfl)
theorem Cb:FnI Tryz.prog 104 Em:=FnI.of Tryz.func104 rfl Tryz.ntmps104 rfl (by kernel_rfl) (by kernel_rfl)
theorem Cc:FnI Tryz.prog 105 En:=FnI.of Tryz.func105 rfl Tryz.ntmps105 rfl (by kernel_rfl) (by kernel_rfl)
theorem Cd:FnI Tryz.prog 106 Eo:=FnI.of Tryz.func106 rfl Tryz.ntmps106 rfl (by kernel_rfl) (by kernel_rfl)
theorem Ce:FnI Tryz.prog 107 Ep:=FnI.of Tryz.func107 rfl Tryz.ntmps107 rfl (by kernel_rfl) (by kernel_rfl)
theorem Cf:FnI Tryz.prog 108 Er:=FnI.of Tryz.func108 rfl Tryz.ntmps108 rfl (by kernel_rfl) (by kernel_rfl)
theorem Cg:FnI Tryz.prog 109 Es:=FnI.of Tryz.func109 rfl Tryz.ntmps109 rfl (by kernel_rfl) (by kernel_rfl)
theorem Ch:FnI Tryz.prog 116 Et:=FnI.of Tryz.func116 rfl Tryz.ntmps116 rfl (by kernel_rfl) (by kernel_rfl)
theorem Ci:FnI Tryz.prog 117 Eu:=FnI.of Tryz.func117 rfl Tryz.ntmps117 rfl (by kernel_rfl) (by kernel_rfl)
theorem Cj:FnI Tryz.prog 118 Ev:=FnI.of Tryz.func118 rfl Tryz.ntmps118 rfl (by kernel_rfl) (by kernel_rfl)
theorem Ck:FnI Tryz.prog 125 Ew:=FnI.of Tryz.func125 rfl Tryz.ntmps125 rfl (by kernel_rfl) (by kernel_rfl)
theorem Cm:FnI Tryz.prog 126 Ey:=FnI.of Tryz.func126 rfl Tryz.ntmps126 rfl (by kernel_rfl) (by kernel_rfl)
theorem Cn:FnI Tryz.prog 127 Ez:=FnI.of Tryz.func127 rfl Tryz.ntmps127 rfl (by kernel_rfl) (by kernel_rfl)
theorem Co:FnI Tryz.prog 128 EA:=FnI.of Tryz.func128 rfl Tryz.ntmps128 rfl (by kernel_rfl) (by kernel_rfl)
theorem Cp:FnI Tryz.prog 129 EB:=FnI.of Tryz.func129 rfl Tryz.ntmps129 rfl (by kernel_rfl) (by kernel_rfl)
theorem Cq:FnI Tryz.prog 130 EC:=FnI.of Tryz.func130 rfl Tryz.ntmps130 rfl (by kernel_rfl) (by kernel_rfl)
theorem Cr:FnI Tryz.prog 131 ED:=FnI.of Tryz.func131 rfl Tryz.ntmps131 rfl (by kernel_rfl) (by kernel_rfl)
theorem Cs:FnI Tryz.prog 132 EE:=FnI.of Tryz.func132 rfl Tryz.ntmps132 rfl (by kernel_rfl) (by kernel_rfl)
theorem Ct:FnI Tryz.prog 133 EF:=FnI.of Tryz.func133 rfl Tryz.ntmps133 rfl (by kernel_rfl) (by kernel_rfl)
theorem Cu:FnI Tryz.prog 134 EG:=FnI.of Tryz.func134 rfl Tryz.ntmps134 rfl (by kernel_rfl) (by kernel_rfl)
theorem Cv:FnI Tryz.prog 135 EH:=FnI.of Tryz.func135 rfl Tryz.ntmps135 rfl (by kernel_rfl) (by kernel_rfl)
theorem Cw:FnI Tryz.prog 140 EI:=FnI.of Tryz.func140 rfl Tryz.ntmps140 rfl (by kernel_rfl) (by kernel_rfl)
theorem Cx:FnI Tryz.prog 141 EJ:=FnI.of Tryz.func141 rfl Tryz.ntmps141 rfl (by kernel_rfl) (by kernel_rfl)
theorem Cy:FnI Tryz.prog 142 EK:=FnI.of Tryz.func142 rfl Tryz.ntmps142 rfl (by kernel_rfl) (by kernel_rfl)
theorem Cz:FnI Tryz.prog 144 EL:=FnI.of Tryz.func144 rfl Tryz.ntmps144 rfl (by kernel_rfl) (by kernel_rfl)
theorem CA:FnI Tryz.prog 145 EM:=FnI.of Tryz.func145 rfl Tryz.ntmps145 rfl (by kernel_rfl) (by kernel_rfl)
theorem CB:FnI Tryz.prog 146 EN:=FnI.of Tryz.func146 rfl Tryz.ntmps146 rfl (by kernel_rfl) (by kernel_rfl)
theorem CC:FnI Tryz.prog 147 EO:=FnI.of Tryz.func147 rfl Tryz.ntmps147 rfl (by kernel_rfl) (by kernel_rfl)
theorem CD:FnI Tryz.prog 148 EP:=FnI.of Tryz.func148 rfl Tryz.ntmps148 rfl (by kernel_rfl) (by kernel_rfl)
theorem CE:FnI Tryz.prog 149 ER:=FnI.of Tryz.func149 rfl Tryz.ntmps149 rfl (by kernel_rfl) (by kernel_rfl)
theorem CF:FnI Tryz.prog 150 ES:=FnI.of Tryz.func150 rfl Tryz.ntmps150 rfl (by kernel_rfl) (by kernel_rfl)
theorem CG:FnI Tryz.prog 152 ET:=FnI.of Tryz.func152 rfl Tryz.ntmps152 rfl (by kernel_rfl) (by kernel_rfl)
theorem CH:FnI Tryz.prog 153 EU:=FnI.of Tryz.func153 rfl Tryz.ntmps153 rfl (by kernel_rfl) (by kernel_rfl)
theorem CI:FnI Tryz.prog 154 EV:=FnI.of Tryz.func154 rfl Tryz.ntmps154 rfl (by kernel_rfl) (by kernel_rfl)
theorem CJ:FnI Tryz.prog 155 EW:=FnI.of Tryz.func155 rfl Tryz.ntmps155 rfl (by kernel_rfl) (by kernel_rfl)
theorem CK:FnI Tryz.prog 157 EX:=FnI.of Tryz.func157 rfl Tryz.ntmps157 rfl (by kernel_rfl) (by kernel_rfl)
theorem CL:FnI Tryz.prog 160 EY:=FnI.of Tryz.func160 rfl Tryz.ntmps160 rfl (by kernel_rfl) (by kernel_rfl)
theorem CM:FnI Tryz.prog 161 EZ:=FnI.of Tryz.func161 rfl Tryz.ntmps161 rfl (by kernel_rfl) (by kernel_rfl)
theorem CN:FnI Tryz.prog 162 F0:=FnI.of Tryz.func162 rfl Tryz.ntmps162 rfl (by kernel_rfl) (by kernel_rfl)
theorem CO:FnI Tryz.prog 163 F3:=FnI.of Tryz.func163 rfl Tryz.ntmps163 rfl (by kernel_rfl) (by kernel_rfl)
theorem CP:FnI Tryz.prog 164 F4:=FnI.of Tryz.func164 rfl Tryz.ntmps164 rfl (by kernel_rfl) (by kernel_rfl)
theorem CQ:FnI Tryz.prog 165 F5:=FnI.of Tryz.func165 rfl Tryz.ntmps165 rfl (by kernel_rfl) (by kernel_rfl)
theorem CR:FnI Tryz.prog 166 F6:=FnI.of Tryz.func166 rfl Tryz.ntmps166 rfl (by kernel_rfl) (by kernel_rfl)
theorem CS:FnI Tryz.prog 167 F7:=FnI.of Tryz.func167 rfl Tryz.ntmps167 rfl (by kernel_rfl) (by kernel_rfl)
theorem CT:FnI Tryz.prog 168 F8:=FnI.of Tryz.func168 rfl Tryz.ntmps168 rfl (by kernel_rfl) (by kernel_rfl)
theorem CU:FnI Tryz.prog 169 F9:=FnI.of Tryz.func169 rfl Tryz.ntmps169 rfl (by kernel_rfl) (by kernel_rfl)
theorem CV:FnI Tryz.prog 170 Fb:=FnI.of Tryz.func170 rfl Tryz.ntmps170 rfl (by kernel_rfl) (by kernel_rfl)
theorem CW:FnI Tryz.prog 171 Fc:=FnI.of Tryz.func171 rfl Tryz.ntmps171 rfl (by kernel_rfl) (by kernel_rfl)
theorem CX:FnI Tryz.prog 172 Fe:=FnI.of Tryz.func172 rfl Tryz.ntmps172 rfl (by kernel_rfl) (by kernel_rfl)
theorem CY:FnI Tryz.prog 173 Ff:=FnI.of Tryz.func173 rfl Tryz.ntmps173 rfl (by kernel_rfl) (by kernel_rfl)
theorem CZ:FnI Tryz.prog 174 Fg:=FnI.of Tryz.func174 rfl Tryz.ntmps174 rfl (by kernel_rfl) (by kernel_rfl)
theorem D3:FnI Tryz.prog 175 Fh:=FnI.of Tryz.func175 rfl Tryz.ntmps175 rfl (by kernel_rfl) (by kernel_rfl)
theorem D4:FnI Tryz.prog 176 Fi:=FnI.of Tryz.func176 rfl Tryz.ntmps176 rfl (by kernel_rfl) (by kernel_rfl)
theorem D5:FnI Tryz.prog 177 Fj:=FnI.of Tryz.func177 rfl Tryz.ntmps177 rfl (by kernel_rfl) (by kernel_rfl)
theorem D6:FnI Tryz.prog 181 Fk:=FnI.of Tryz.func181 rfl Tryz.ntmps181 rfl (by kernel_rfl) (by kernel_rfl)
theorem D7:FnI Tryz.prog 182 Fm:=FnI.of Tryz.func182 rfl Tryz.ntmps182 rfl (by kernel_rfl) (by kernel_rfl)
theorem D8:FnI Tryz.prog 183 Fo:=FnI.of Tryz.func183 rfl Tryz.ntmps183 rfl (by kernel_rfl) (by kernel_rfl)
theorem D9:FnI Tryz.prog 184 Fp:=FnI.of Tryz.func184 rfl Tryz.ntmps184 rfl (by kernel_rfl) (by kernel_rfl)
theorem Da:FnI Tryz.prog 185 Fq:=FnI.of Tryz.func185 rfl Tryz.ntmps185 rfl (by kernel_rfl) (by kernel_rfl)
theorem Db:FnI Tryz.prog 186 Fs:=FnI.of Tryz.func186 rfl Tryz.ntmps186 rfl (by kernel_rfl) (by kernel_rfl)
theorem Dc:FnI Tryz.prog 187 Ft:=FnI.of Tryz.func187 rfl Tryz.ntmps187 rfl (by kernel_rfl) (by kernel_rfl)
theorem Dd:FnI Tryz.prog 188 Fu:=FnI.of Tryz.func188 rfl Tryz.ntmps188 rfl (by kernel_rfl) (by kernel_rfl)
theorem De:FnI Tryz.prog 189 Fv:=FnI.of Tryz.func189 rfl Tryz.ntmps189 rfl (by kernel_rfl) (by kernel_rfl)
theorem Df:FnI Tryz.prog 190 Fw:=FnI.of Tryz.func190 rfl Tryz.ntmps190 rfl (by kernel_rfl) (by kernel_rfl)
theorem Dg:FnI Tryz.prog 191 Fx:=FnI.of Tryz.func191 rfl Tryz.ntmps191 rfl (by kernel_rfl) (by kernel_rfl)
theorem Dh:FnI Tryz.prog 192 Fy:=FnI.of Tryz.func192 rfl Tryz.ntmps192 rfl (by kernel_rfl) (by kernel_rfl)
theorem Di:FnI Tryz.prog 200 Fz:=FnI.of Tryz.func200 rfl Tryz.ntmps200 rfl (by kernel_rfl) (by kernel_rfl)
theorem Dj:FnI Tryz.prog 201 FA:=FnI.of Tryz.func201 rfl Tryz.ntmps201 rfl (by kernel_rfl) (by kernel_rfl)
theorem Dk:FnI Tryz.prog 202 FB:=FnI.of Tryz.func202 rfl Tryz.ntmps202 rfl (by kernel_rfl) (by kernel_rfl)
theorem Dl:FnI Tryz.prog 203 FC:=FnI.of Tryz.func203 rfl Tryz.ntmps203 rfl (by kernel_rfl) (by kernel_rfl)
theorem Dm:FnI Tryz.prog 204 FD:=FnI.of Tryz.func204 rfl Tryz.ntmps204 rfl (by kernel_rfl) (by kernel_rfl)
theorem Dn:FnI Tryz.prog 207 FE:=FnI.of Tryz.func207 rfl Tryz.ntmps207 rfl (by kernel_rfl) (by kernel_rfl)
theorem Dp:FnI Tryz.prog 210 FF:=FnI.of Tryz.func210 rfl Tryz.ntmps210 rfl (by kernel_rfl) (by kernel_rfl)
theorem Dq:FnI Tryz.prog 213 FG:=FnI.of Tryz.func213 rfl Tryz.ntmps213 rfl (by kernel_rfl) (by kernel_rfl)
theorem Dr:FnI Tryz.prog 214 FH:=FnI.of Tryz.func214 rfl Tryz.ntmps214 rfl (by kernel_rfl) (by kernel_rfl)
theorem Ds:FnI Tryz.prog 215 FI:=FnI.of Tryz.func215 rfl Tryz.ntmps215 rfl (by kernel_rfl) (by kernel_rfl)
theorem Dt:FnI Tryz.prog 216 FJ:=FnI.of Tryz.func216 rfl Tryz.ntmps216 rfl (by kernel_rfl) (by kernel_rfl)
theorem Du:FnI Tryz.prog 217 FK:=FnI.of Tryz.func217 rfl Tryz.ntmps217 rfl (by kernel_rfl) (by kernel_rfl)
theorem Dw:FnI Tryz.prog 218 FL:=FnI.of Tryz.func218 rfl Tryz.ntmps218 rfl (by kernel_rfl) (by kernel_rfl)
theorem Dx:FnI Tryz.prog 219 FM:=FnI.of Tryz.func219 rfl Tryz.ntmps219 rfl (by kernel_rfl) (by kernel_rfl)
theorem Dy:FnI Tryz.prog 220 FN:=FnI.of Tryz.func220 rfl Tryz.ntmps220 rfl (by kernel_rfl) (by kernel_rfl)
theorem Dz:FnI Tryz.prog 221 FO:=FnI.of Tryz.func221 rfl Tryz.ntmps221 rfl (by kernel_rfl) (by kernel_rfl)
theorem DA:FnI Tryz.prog 222 FP:=FnI.of Tryz.func222 rfl Tryz.ntmps222 rfl (by kernel_rfl) (by kernel_rfl)
theorem DB:FnI Tryz.prog 223 FQ:=FnI.of Tryz.func223 rfl Tryz.ntmps223 rfl (by kernel_rfl) (by kernel_rfl)
theorem DC:FnI Tryz.prog 224 FR:=FnI.of Tryz.func224 rfl Tryz.ntmps224 rfl (by kernel_rfl) (by kernel_rfl)
theorem DD:FnI Tryz.prog 225 FT:=FnI.of Tryz.func225 rfl Tryz.ntmps225 rfl (by kernel_rfl) (by kernel_rfl)
theorem DE:FnI Tryz.prog 227 FU:=FnI.of Tryz.func227 rfl Tryz.ntmps227 rfl (by kernel_rfl) (by kernel_rfl)
theorem DF:FnI Tryz.prog 228 FV:=FnI.of Tryz.func228 rfl Tryz.ntmps228 rfl (by kernel_rfl) (by kernel_rfl)
theorem DG:FnI Tryz.prog 232 FW:=FnI.of Tryz.func232 rfl Tryz.ntmps232 rfl (by kernel_rfl) (by kernel_rfl)
theorem DH:FnI Tryz.prog 233 FX:=FnI.of Tryz.func233 rfl Tryz.ntmps233 rfl (by kernel_rfl) (by kernel_rfl)
theorem DI:FnI Tryz.prog 234 FY:=FnI.of Tryz.func234 rfl Tryz.ntmps234 rfl (by kernel_rfl) (by kernel_rfl)
theorem DJ:FnI Tryz.prog 235 FZ:=FnI.of Tryz.func235 rfl Tryz.ntmps235 rfl (by kernel_rfl) (by kernel_rfl)
theorem DK:FnI Tryz.prog 238 G0:=FnI.of Tryz.func238 rfl Tryz.ntmps238 rfl (by kernel_rfl) (by kernel_rfl)
theorem DL:FnI Tryz.prog 242 G3:=FnI.of Tryz.func242 rfl Tryz.ntmps242 rfl (by kernel_rfl) (by kernel_rfl)
theorem DM:FnI Tryz.prog 245 G4:=FnI.of Tryz.func245 rfl Tryz.ntmps245 rfl (by kernel_rfl) (by kernel_rfl)
theorem DN:FnI Tryz.prog 250 G5:=FnI.of Tryz.func250 rfl Tryz.ntmps250 rfl (by kernel_rfl) (by kernel_rfl)
theorem DO:FnI Tryz.prog 251 G6:=FnI.of Tryz.func251 rfl Tryz.ntmps251 rfl (by kernel_rfl) (by kernel_rfl)
theorem DP:FnI Tryz.prog 252 G7:=FnI.of Tryz.func252 rfl Tryz.ntmps252 rfl (by kernel_rfl) (by kernel_rfl)
theorem DQ:FnI Tryz.prog 254 G8:=FnI.of Tryz.func254 rfl Tryz.ntmps254 rfl (by kernel_rfl) (by kernel_rfl)
theorem DR:FnI Tryz.prog 255 G9:=FnI.of Tryz.func255 rfl Tryz.ntmps255 rfl (by kernel_rfl) (by kernel_rfl)
theorem DT:FnI Tryz.prog 256 Ga:=FnI.of Tryz.func256 rfl Tryz.ntmps256 rfl (by kernel_rfl) (by kernel_rfl)
theorem DU:FnI Tryz.prog 257 Gb:=FnI.of Tryz.func257 rfl Tryz.ntmps257 rfl (by kernel_rfl) (by kernel_rfl)
theorem DV:FnI Tryz.prog 258 Gc:=FnI.of Tryz.func258 rfl Tryz.ntmps258 rfl (by kernel_rfl) (by kernel_rfl)
theorem DW:FnI Tryz.prog 259 Gd:=FnI.of Tryz.func259 rfl Tryz.ntmps259 rfl (by kernel_rfl) (by kernel_rfl)
theorem DX:FnI Tryz.prog 260 Ge:=FnI.of Tryz.func260 rfl Tryz.ntmps260 rfl (by kernel_rfl) (by kernel_rfl)
theorem DY:FnI Tryz.prog 265 Gf:=FnI.of Tryz.func265 rfl Tryz.ntmps265 rfl (by kernel_rfl) (by kernel_rfl)
theorem DZ:FnI Tryz.prog 267 Gg:=FnI.of Tryz.func267 rfl Tryz.ntmps267 rfl (by kernel_rfl) (by kernel_rfl)
theorem E0:FnI Tryz.prog 268 Gh:=FnI.of Tryz.func268 rfl Tryz.ntmps268 rfl (by kernel_rfl) (by kernel_rfl)
theorem E6:FnI Tryz.prog 272 Gi:=FnI.of Tryz.func272 rfl Tryz.ntmps272 rfl (by kernel_rfl) (by kernel_rfl)
theorem E7:FnI Tryz.prog 273 Gj:=FnI.of Tryz.func273 rfl Tryz.ntmps273 rfl (by kernel_rfl) (by kernel_rfl)
theorem E8:FnI Tryz.prog 274 Gk:=FnI.of Tryz.func274 rfl Tryz.ntmps274 rfl (by kernel_rfl) (by kernel_rfl)
theorem E9:FnI Tryz.prog 275 Gl:=FnI.of Tryz.func275 rfl Tryz.ntmps275 rfl (by kernel_rfl) (by kernel_rfl)
theorem Ea:FnI Tryz.prog 280 Gm:=FnI.of Tryz.func280 rfl Tryz.ntmps280 rfl (by kernel_rfl) (by kernel_rfl)
theorem Eb:FnI Tryz.prog 281 Gn:=FnI.of Tryz.func281 rfl Tryz.ntmps281 rfl (by kernel_rfl) (by kernel_rfl)
theorem Ec:FnI Tryz.prog 285 Gp:=FnI.of Tryz.func285 rfl Tryz.ntmps285 rfl (by kernel_rfl) (by kernel_rfl)
theorem Ed:FnI Tryz.prog 292 Gq:=FnI.of Tryz.func292 rfl Tryz.ntmps292 rfl (by kernel_rfl) (by kernel_rfl)
theorem Ee:FnI Tryz.prog 295 Gr:=FnI.of Tryz.func295 rfl Tryz.ntmps295 rfl (by kernel_rfl) (by kernel_rfl)
theorem Ef:FnI Tryz.prog 296 Gs:=FnI.of Tryz.func296 rfl Tryz.ntmps296 rfl (by kernel_rfl) (by kernel_rfl)
theorem Eg:FnI Tryz.prog 297 Gt:=FnI.of Tryz.func297 rfl Tryz.ntmps297 rfl (by kernel_rfl) (by kernel_rfl)
theorem Eh:FnI Tryz.prog 302 Gu:=FnI.of Tryz.func302 rfl Tryz.ntmps302 rfl (by kernel_rfl) (by kernel_rfl)
theorem Ei:FnI Tryz.prog 303 Gv:=FnI.of Tryz.func303 rfl Tryz.ntmps303 rfl (by kernel_rfl) (by kernel_rfl)
theorem Bw:Tr.Fa (FnI Tryz.prog) fnT:=
 ⟨o,⟨o,⟨o,⟨o,⟨o,⟨o,⟨o,⟨Cn,⟨DR,o,o⟩,o⟩,⟨Dg,o,o⟩⟩,⟨fo95,o,⟨DB,o,o⟩⟩⟩,⟨o,⟨o,o,⟨Dn,o,o⟩⟩,⟨o,⟨D3,⟨Ei,o,o⟩,o⟩,o⟩⟩⟩,⟨o,⟨o,⟨o,⟨Cv,o,o⟩,o⟩,⟨Ca,⟨CS,⟨Ee,o,o⟩,o⟩,o⟩⟩,⟨o,⟨fo87,o,⟨Ds,o,o⟩⟩,⟨o,⟨D8,o,o⟩,o⟩⟩⟩⟩,⟨o,⟨o,⟨o,⟨o,⟨Cr,⟨DW,o,o⟩,o⟩,o⟩,⟨o,⟨CO,o,o⟩,⟨DE,o,o⟩⟩⟩,⟨o,⟨fo83,⟨CC,⟨E9,o,o⟩,o⟩,o⟩,o⟩⟩,⟨o,⟨o,⟨o,⟨o,⟨DZ,o,o⟩,o⟩,⟨Dl,o,o⟩⟩,⟨Ce,⟨CW,o,o⟩,⟨DJ,o,o⟩⟩⟩,⟨fo59,⟨fo91,⟨CJ,o,o⟩,⟨Dx,o,o⟩⟩,⟨o,⟨Dc,o,o⟩,⟨DO,o,o⟩⟩⟩⟩⟩⟩,⟨o,⟨o,⟨o,⟨o,⟨o,⟨Cp,⟨DU,o,o⟩,o⟩,o⟩,⟨o,⟨CM,o,o⟩,⟨DD,o,o⟩⟩⟩,⟨fo49,⟨o,⟨CA,⟨E7,o,o⟩,o⟩,o⟩,⟨o,⟨D5,o,o⟩,o⟩⟩⟩,⟨o,⟨o,⟨o,⟨o,⟨DY,o,o⟩,o⟩,⟨Dj,o,o⟩⟩,⟨Cc,⟨CU,⟨Eg,o,o⟩,o⟩,⟨DH,o,o⟩⟩⟩,⟨o,⟨fo89,⟨CH,⟨Eb,o,o⟩,o⟩,⟨Du,o,o⟩⟩,⟨o,⟨Da,o,o⟩,o⟩⟩⟩⟩,⟨o,⟨o,⟨o,⟨o,⟨Ct,o,o⟩,o⟩,⟨o,⟨CQ,o,o⟩,o⟩⟩,⟨o,⟨fo85,⟨CE,o,o⟩,⟨Dq,o,o⟩⟩,⟨Ci,⟨D6,o,o⟩,⟨DM,o,o⟩⟩⟩⟩,⟨fo29,⟨o,⟨o,⟨Cx,o,o⟩,o⟩,⟨Cg,⟨CY,o,o⟩,o⟩⟩,⟨o,⟨fo93,⟨CK,⟨Ec,o,o⟩,o⟩,⟨Dz,o,o⟩⟩,⟨Ck,⟨De,o,o⟩,o⟩⟩⟩⟩⟩⟩,⟨o,⟨o,⟨o,⟨o,⟨o,⟨o,⟨Co,⟨DT,o,o⟩,o⟩,⟨Dh,o,o⟩⟩,⟨o,⟨CL,o,o⟩,⟨DC,o,o⟩⟩⟩,⟨fo48,⟨o,⟨Cz,⟨E6,o,o⟩,o⟩,o⟩,⟨o,⟨D4,o,o⟩,o⟩⟩⟩,⟨o,⟨o,⟨o,o,⟨Di,o,o⟩⟩,⟨Cb,⟨CT,⟨Ef,o,o⟩,o⟩,⟨DG,o,o⟩⟩⟩,⟨o,⟨fo88,⟨CG,⟨Ea,o,o⟩,o⟩,⟨Dt,o,o⟩⟩,⟨o,⟨D9,o,o⟩,o⟩⟩⟩⟩,⟨fo12,⟨o,⟨fo36,⟨o,⟨Cs,⟨DX,o,o⟩,o⟩,o⟩,⟨C8,⟨CP,⟨Ed,o,o⟩,o⟩,⟨DF,o,o⟩⟩⟩,⟨o,⟨fo84,⟨CD,o,o⟩,o⟩,⟨Ch,o,o⟩⟩⟩,⟨o,⟨o,⟨o,⟨Cw,⟨E0,o,o⟩,o⟩,⟨Dm,o,o⟩⟩,⟨Cf,⟨CX,o,o⟩,o⟩⟩,⟨fo60,⟨fo92,o,⟨Dy,o,o⟩⟩,⟨o,⟨Dd,o,o⟩,⟨DP,o,o⟩⟩⟩⟩⟩⟩,⟨o,⟨o,⟨o,⟨o,⟨o,⟨Cq,⟨DV,o,o⟩,o⟩,o⟩,⟨o,⟨CN,o,o⟩,o⟩⟩,⟨fo50,⟨o,⟨CB,⟨E8,o,o⟩,o⟩,⟨Dp,o,o⟩⟩,⟨o,o,⟨DL,o,o⟩⟩⟩⟩,⟨o,⟨fo42,⟨fo74,o,⟨Dk,o,o⟩⟩,⟨Cd,⟨CV,o,o⟩,⟨DI,o,o⟩⟩⟩,⟨o,⟨fo90,⟨CI,o,o⟩,⟨Dw,o,o⟩⟩,⟨o,⟨Db,o,o⟩,⟨DN,o,o⟩⟩⟩⟩⟩,⟨o,⟨o,⟨o,⟨o,⟨Cu,o,o⟩,o⟩,⟨C9,⟨CR,o,o⟩,o⟩⟩,⟨o,⟨fo86,⟨CF,o,o⟩,⟨Dr,o,o⟩⟩,⟨Cj,⟨D7,o,o⟩,o⟩⟩⟩,⟨fo30,⟨o,⟨fo78,⟨Cy,o,o⟩,o⟩,⟨o,⟨CZ,⟨Eh,o,o⟩,o⟩,⟨DK,o,o⟩⟩⟩,⟨fo62,⟨fo94,o,⟨DA,o,o⟩⟩,⟨Cm,⟨Df,o,o⟩,⟨DQ,o,o⟩⟩⟩⟩⟩⟩⟩⟩
end Go.Sx.Seat
