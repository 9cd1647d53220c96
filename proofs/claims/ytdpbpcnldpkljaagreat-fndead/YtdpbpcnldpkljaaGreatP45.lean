import Derived.Test.YtdpbpcnldpkljaaGreatP32
import Derived.Test.YtdpbpcnldpkljaaGreatP24
import Derived.Test.YtdpbpcnldpkljaaGreatP44
import Derived.Test.YtdpbpcnldpkljaaGreatP40
namespace Go.Proofs.Z
open Tryz
set_option maxRecDepth 1000000
set_option maxHeartbeats 0
section
open Go.RowKit Flt
attribute [local go_sem] eD eB eA
variable {w:World} {b1 b3:Option Addr} {m1 e1 cap m3 e3 base g2 i j kk:Nat} {vs:List Vl} {ln va vb vc la d F:Int} {vk:Nat}
theorem G6 (H:MvH w cap base g2 i vs ⟨9,ln,(j:Int),vb,vc,vk⟩)(hj:j<vs.length)(hla:(vs.getD j Vl.zero).len=la):PtC w b1 b3 m1 e1 cap m3 e3 base g2 i vs 0 d ([eI 10 la d 0 0],((vs.length:Nat):Int)) true:=by
 obtain⟨⟨v0,v1,v2,v3,v4,v5⟩,j0,j1,hg2,wB,hB,hn,HM,HO⟩:=H.op b1 b3 m1 e1 m3 e3
 clear H
 unfold PtC
 have HLA:Hid _:=hla
 clear hla
 go_enter func150,ntmps150
 go_wp2_with fail
 rw[hB.out]
 clear v0 v1 v2 v3 v4 v5 hB
 refine fg (Gk HM xaa hj HLA.out ?_)
 exact no_implicit_lambda% xam
theorem Ej (H:MvH w cap base g2 i vs ⟨10,ln,va,vb,vc,vk⟩):PtC w b1 b3 m1 e1 cap m3 e3 base g2 i vs 0 d ([eI 9 1 d 0 0],((vs.length:Nat):Int)) true:=by
 obtain⟨⟨v0,v1,v2,v3,v4,v5⟩,j0,j1,hg2,wB,hB,hn,HM,HO⟩:=H.op b1 b3 m1 e1 m3 e3
 clear H
 unfold PtC
 go_enter func150,ntmps150
 go_wp2_with fail
 rw[hB.out]
 clear v0 v1 v2 v3 v4 v5 hB
 refine fg (FH HM xaa ?_)
 exact no_implicit_lambda% xam
theorem Ek (H:MvH w cap base g2 i vs ⟨11,ln,(j:Int),vb,vc,vk⟩)(hj:j<vs.length)(hla:(vs.getD j Vl.zero).len=la):PtC w b1 b3 m1 e1 cap m3 e3 base g2 i vs 0 d ([eI 12 la d 0 vc],((vs.length:Nat):Int)) true:=by
 obtain⟨⟨v0,v1,v2,v3,v4,v5⟩,j0,j1,hg2,wB,hB,hn,HM,HO⟩:=H.op b1 b3 m1 e1 m3 e3
 clear H
 unfold PtC
 have HLA:Hid _:=hla
 clear hla
 go_enter func150,ntmps150
 go_wp2_with fail
 rw[hB.out]
 clear v0 v1 v2 v3 v4 v5 hB
 refine fg (FS HM xaa hj HLA.out ?_)
 exact no_implicit_lambda% xam
end
section
open Go.RowKit Flt
theorem G7 (w:World)(b1 b3:Option Addr)(m1 e1 cap m3 e3 base g2 i:Nat)(vs:List Vl)(v:Vl)(la:Int)(k:Nat)(d:Int)(h:w.ownsRow base 35 6 (.slice (some ⟨g2,0,none⟩) vs.length cap) vs.length (fp vs))(hb:base<=w.heap.size)(hn:vs.length<=800000)(hi:i<vs.length)(hv:At w g2 (i*6) v)
  (hop:0<=v.op/\v.op<=13) (hk:k<cnt v.op) (hla:(v.op=9\/v.op=11)->∃j:Nat,v.a=(j:Int)/\j<vs.length/\(vs.getD j Vl.zero).len=la):
  Calls prog 150 #[eR b1 m1 e1 (some ⟨g2,0,none⟩) vs.length cap b3 m3 e3,.int .i64 (i:Int),.int .i64 (k:Int),.int .i64 d] w λe w'=>PtP w b1 m1 e1 b3 m3 e3 vs base (some g2) (ptM (i:Int) v la k d vs.length) (me v k) e w':=by
 obtain⟨o,ln,va,vb,vc,vk⟩:=v
 have H:MvH w cap base g2 i vs ⟨o,ln,va,vb,vc,vk⟩:=⟨h,hb,hn,hi,hv⟩
 clear h hb hn hi hv
 simp only at hop hk hla
 have hc:o=2\/o=3\/o=4\/o=5\/o=6\/o=7\/o=8\/o=9\/o=10\/o=11\/o=12\/o=13:=by
  by_cases c0:o=0
  ·subst c0;rw[show cnt 0=0 from rfl] at hk;omega
  by_cases c1:o=1
  ·subst c1;rw[show cnt 1=0 from rfl] at hk;omega
  omega
 rcases hc with rfl|rfl|rfl|rfl|rfl|rfl|rfl|rfl|rfl|rfl|rfl|rfl
 ·have e:ptM (i:Int) ⟨2,ln,va,vb,vc,vk⟩ la k d vs.length=([],d):=by simp[ptM,kS,me]
  rw[e,show me ⟨2,ln,va,vb,vc,vk⟩ k=true by simp[me]]
  exact FK H
 ·rcases (by have:cnt 3=2:=rfl;omega:k=0\/k=1) with rfl|rfl
  ·exact Cm H
  ·exact Cn H
 ·have e:ptM (i:Int) ⟨4,ln,va,vb,vc,vk⟩ la k d vs.length=([eI 4 ln d (fld ⟨4,ln,va,vb,vc,vk⟩ (1-k)) 0],((vs.length:Nat):Int)):=by
   rcases (by have:cnt 4=2:=rfl;omega:k=0\/k=1) with rfl|rfl<;>rfl
  rw[e,show me ⟨4,ln,va,vb,vc,vk⟩ k=true by simp[me]]
  exact FM H hk rfl
 ·rcases (by have:cnt 5=2:=rfl;omega:k=0\/k=1) with rfl|rfl
  ·exact Cp H
  ·exact Ei H
 ·obtain rfl:k=0:=by have:cnt 6=1:=rfl;omega
  exact FL H
 ·rcases (by have:cnt 7=2:=rfl;omega:k=0\/k=1) with rfl|rfl
  ·exact DX H
  ·exact DY H
 ·rcases (by have:cnt 8=3:=rfl;omega:k=0\/k=1\/k=2) with rfl|rfl|rfl
  ·exact Co H
  ·exact DZ H
  ·exact D0 H
 ·obtain rfl:k=0:=by have:cnt 9=1:=rfl;omega
  obtain⟨j,rfl,hj,hl⟩:=hla (.inl rfl)
  exact G6 H hj hl
 ·obtain rfl:k=0:=by have:cnt 10=1:=rfl;omega
  exact Ej H
 ·obtain rfl:k=0:=by have:cnt 11=1:=rfl;omega
  obtain⟨j,rfl,hj,hl⟩:=hla (.inr rfl)
  exact Ek H hj hl
 ·obtain rfl:k=0:=by have:cnt 12=1:=rfl;omega
  exact G5 H
 ·obtain rfl:k=0:=by have:cnt 13=1:=rfl;omega
  exact FN H
