import Derived.Test.YtjbcmmaniphkkaaGreatDoorSy4
import Derived.Test.YtjbcmmaniphkkaaGreatDoorAw
set_option linter.unusedSectionVars false
set_option linter.unusedVariables false
set_option linter.unusedSimpArgs false
namespace Go.Sx.Seat
open Go Go.Sx Go.Proofs Go.RowKit LimbNum DigNum
def xO:Prm:=fun _ a=>match a with
 | []=>some (.bool true)
 | _=>none
theorem Cn [Unk]:au Tryz.prog 6 xO:=by
 intro h args av hg m w vals hv hs
 unfold xO at hg
 split at hg
 ·cases hg
  exact Co m w _ vals hv hs
 ·cases hg
def bdB (i c:Nat):List (Nat × Prm):=match c with
 | 0=>[]
 | c=>[(106,AX [i,i+1,i+2,i+3] (okB c)),(32,AX [i,i+1,i+2,i+3] (okI c))]
def lv0:PT→List (Nat × Prm):=sK 106 rPB (sK 32 rCB (sK 176 (rC 75 .mul []) (sK 96 rSq
 (sK 29 ⟨KH,spS (cLo .mul (.v 0) (.v 1) (.v 2) (.v 3)) (cHi .mul (.v 0) (.v 1) (.v 2) (.v 3)),600,[]⟩ (sK 19 ⟨[spS (.v 0) (.v 1)],spS (.bin 2 (.v 0) (.v 1)) (.bin 3 (.v 0) (.v 1)),600,[(.v 0,.v 1,false)]⟩ sy)))))
theorem IW:ub lv0:=(((((iU.add Bi).add Eg).add rsq).add Kt).add rcb).add rpb
def eight:List Nat:=[0,1,2,3,4,5,6,7]
def lvB (wd:Bool) (l:List (Nat × Nat)) (T:PT):List (Nat × Prm):=(6,xO)::(7,DV eight wd)::((l.flatMap fun x=>bdB x.1 x.2)++lv0 T)
def spl (l:List (Nat × Nat)):List (Nat × Nat):=l.flatMap fun x=>match x.2 with
 | 0=>[(x.1,0),(x.1+2,0)]
 | _=>[]
def cj:List (SE × SE × Int):=[(.neg (.v 3),.sub (.int 0) (.v 3),0),(.neg (.v 2),.sub (.int 0) (.v 2),0)]
def ab (a b:Nat):List (Nat × Nat):=[(0,a),(4,b)]
def sO:List AV:=[agS [0,1,2,3],agS [4,5,6,7]]
theorem Ej (ρ:Nat→Rat) (σ:Nat→ByteArray):([mg 0 600].all fun T=>@qp (gn ρ σ T) _ T (ES (lvB true []) T) 1000 60 4 sO (.bool true))=true:=by kernel_rfl
theorem GD (ρ:Nat→Rat) (σ:Nat→ByteArray):(Cf.all fun a=>Cf.all fun b=>[tX 60 (spl (ab a b)) cj].all fun T=>@qp (gn ρ σ T) _ T (ES (lvB false (ab a b)) T) 1000 60 4 sO (.bool true))=true:=by kernel_rfl
def EU (σ:Nat→ByteArray) (i c:Nat):Prop:=match c with
 | 0=>BK (σ i) (σ (i+1)) (σ (i+2)) (σ (i+3))
 | c=>mu (σ i) (σ (i+1)) (σ (i+2)) (σ (i+3)) c
theorem uC (σ:Nat→ByteArray) (i:Nat):∃ c,c∈Cf∧EU σ i c:=by
 rcases Ab (σ i) (σ (i+1)) (σ (i+2)) (σ (i+3)) with h|⟨e,h⟩
 ·exact⟨0,by decide,h⟩
 ·obtain⟨n,hn⟩:=mF h.mem
  refine ⟨e,List.mem_cons_of_mem _ h.mem,?_⟩
  subst hn
  exact h
theorem JD {σ:Nat→ByteArray} {l:List (Nat × Nat)} (h:∀ x∈l,EU σ x.1 x.2):∀ x∈spl l,uh σ x.1 x.2:=by
 intro x hx
 obtain⟨⟨i,c⟩,h1,h2⟩:=List.mem_flatMap.1 hx
 have h3:=h _ h1
 cases c with
 | zero=>
  have h3:BK (σ i) (σ (i+1)) (σ (i+2)) (σ (i+3)):=h3
  simp only[List.mem_cons,List.not_mem_nil,or_false] at h2
  rcases h2 with rfl|rfl
  ·exact h3.1
  ·exact h3.2
 | succ c=>exact absurd h2 List.not_mem_nil
theorem Dk {U:Unk} {ρ:Nat→Rat} {σ:Nat→ByteArray} {T:PT} (hT:@Sem U ρ σ T) {wd:Bool} (hw:((eight.map σ).any fun x=>decide (60<x.size))=wd) {l:List (Nat × Nat)} (hs:l=[]∨∀ i,(σ i).size≤1000000) (h:∀ x∈l,EU σ x.1 x.2):∀ x∈lvB wd l T,@au U _ Tryz.prog x.1 x.2:=by
 intro x hx
 rcases List.mem_cons.1 hx with rfl|hx
 ·exact @Cn U
 rcases List.mem_cons.1 hx with rfl|hx
 ·exact @Ii U _ _ _ _ hT _ _ _ _ hw fun g o c xs w h1 h2 h3=>Go.Proofs.YtjbcmmaniphkkaaGreatDoor.D.Cb g o c xs w h1 h2 h3
 rcases List.mem_append.1 hx with hx|hx
 ·obtain⟨⟨i,c⟩,h1,h2⟩:=List.mem_flatMap.1 hx
  rcases hs with rfl|hs
  ·exact absurd h1 List.not_mem_nil
  have h3:=h _ h1
  cases c with
  | zero=>exact absurd h2 List.not_mem_nil
  | succ c=>
   have h3:mu (σ i) (σ (i+1)) (σ (i+2)) (σ (i+3)) (c+1):=h3
   obtain⟨g1,g2⟩:=JZ (hs i) (hs (i+1)) (hs (i+2)) (hs (i+3)) h3
   simp only[bdB,List.mem_cons,List.not_mem_nil,or_false] at h2
   rcases h2 with rfl|rfl
   ·exact @oK _ _ _ U _ hT _ _ [i,i+1,i+2,i+3] _ g1
   ·exact @oK _ _ _ U _ hT _ _ [i,i+1,i+2,i+3] _ g2
 ·exact IW U _ _ T hT x hx
theorem Ac (a b c d e f g h:ByteArray) (hz:∀ x∈[a,b,c,d,e,f,g,h],x.size≤9223372036854775807) (w:World) (ht:uj w) :
  Calls Tryz.prog 4 #[vaS [a,b,c,d],vaS [e,f,g,h]] w fun e w'=>e=.returned (.bool true)∧Below w.heap.size w w':=by
 have hlen:∀ i,(sig [a,b,c,d,e,f,g,h] i).size≤9223372036854775807:=fun i=>by
  unfold sig
  rw[List.getD_eq_getElem?_getD]
  cases hg:[a,b,c,d,e,f,g,h][i]? with
  | none=>exact Nat.zero_le _
  | some x=>exact hz x (List.mem_of_getElem? hg)
 have key:∀ ρ,Yields Tryz.prog ρ (sig [a,b,c,d,e,f,g,h]) 4 sO (.bool true)→Calls Tryz.prog 4 #[vaS [a,b,c,d],vaS [e,f,g,h]] w fun e w'=>e=.returned (.bool true)∧Below w.heap.size w w':=by
  rintro ρ ⟨U,T,hT,H⟩
  refine (H w [vaS [a,b,c,d],vaS [e,f,g,h]] ht (by
   unfold sO
   rw[@RVs.eq_def U];refine ⟨_,_,rfl,@wK _ _ _ U _ hT _ _ [0,1,2,3],?_⟩
   rw[@RVs.eq_def U];exact⟨_,_,rfl,@wK _ _ _ U _ hT _ _ [4,5,6,7],by rw[@RVs.eq_def U]⟩)).mono ?_
  rintro e w' ⟨v,rfl,g1,g2⟩
  rw[@RV.eq_def U] at g1
  simp only at g1
  subst g1
  exact⟨rfl,g2⟩
 clear hz
 generalize hσ:sig [a,b,c,d,e,f,g,h]=σ at *
 have hbig:∀ i,8≤i→(σ i).size=0:=fun i hi=>by
  rw[←hσ]
  unfold sig
  rw[List.getD_eq_getElem?_getD,List.getElem?_eq_none (by simpa using hi)]
  rfl
 clear hσ
 cases hw:(eight.map σ).any fun x=>decide (60<x.size) with
 | true=>
  refine key (ew σ) (leaf (E:=ES (lvB true [])) (cC.one (T:=mg 0 600) ?_) mixed (fun _=>dr) (fun _=>dc) (fun U T hT=>@ml U _ _ _ _ (@bI U) (Dk hT hw (.inl rfl) fun x hx=>absurd hx List.not_mem_nil)) (fun fn h=>jC (by kernel_rfl) h) (Ej _ _))
  exact⟨fun x hx=>absurd hx List.not_mem_nil,fun x hx=>absurd hx List.not_mem_nil,fun x hx=>absurd hx List.not_mem_nil,hlen,fun x hx=>absurd hx List.not_mem_nil,fun x hx=>absurd hx List.not_mem_nil,fun x hx=>absurd hx List.not_mem_nil,fun x hx=>absurd hx List.not_mem_nil,fun i=>tS _⟩
 | false=>
  have h60:∀ i,(σ i).size≤60:=fun i=>by
   rcases Nat.lt_or_ge i 8 with hi|hi
   ·have h1:=List.any_eq_false.1 hw (σ i) (List.mem_map.2 ⟨i,by
     have:i=0∨i=1∨i=2∨i=3∨i=4∨i=5∨i=6∨i=7:=by omega
     rcases this with rfl|rfl|rfl|rfl|rfl|rfl|rfl|rfl<;>decide,rfl⟩)
    have h2:¬60<(σ i).size:=fun hc=>h1 (decide_eq_true hc)
    omega
   ·rw[hbig i hi];omega
  have hs:∀ i,(σ i).size≤1000000:=fun i=>Nat.le_trans (h60 i) (by decide)
  obtain⟨p,hp,h1⟩:=uC σ 0
  obtain⟨q,hq,h2⟩:=uC σ 4
  have hab:∀ x∈ab p q,EU σ x.1 x.2:=fun x hx=>by
   simp only[ab,List.mem_cons,List.not_mem_nil,or_false] at hx
   rcases hx with rfl|rfl
   ·exact h1
   ·exact h2
  have hT:TOK (ew σ) σ (tX 60 (spl (ab p q)) cj):=Iv hs (fun i=>EO (h60 i) (by decide)) (JD hab) (fun x hx=>by
   simp only[cj,List.mem_cons,List.not_mem_nil,or_false] at hx
   have hn:∀ y:Rat,sg (-y) (((0:Int):Rat)-y)=0:=fun y=>by
    rw[show ((0:Int):Rat)=0 from rfl,show (0:Rat)-y = -y by grind]
    exact tL _
   rcases hx with rfl|rfl
   ·exact hn _
   ·exact hn _)
  have hrun:=List.all_eq_true.1 (List.all_eq_true.1 (GD (ew σ) σ) p hp) q hq
  exact key (ew σ) (leaf (E:=ES (lvB false (ab p q))) (cC.one hT) mixed (fun _=>dr) (fun _=>dc) (fun U T hT=>@ml U _ _ _ _ (@bI U) (Dk hT hw (.inr hs) hab)) (fun fn h=>jC (by kernel_rfl) h) hrun)
end Go.Sx.Seat
