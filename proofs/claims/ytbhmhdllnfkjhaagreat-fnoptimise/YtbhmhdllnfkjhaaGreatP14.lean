import Derived.Test.YtbhmhdllnfkjhaaGreatP08
namespace Go.Proofs.Z
variable{Zp:Prop}
open Tryz
set_option maxRecDepth 1000000
set_option maxHeartbeats 0
open Go.RowKit Flt
attribute[local go_sem] eG eE eD
theorem dE.qew(h:Zp:=by
 clear be aw;rcases (by omega:v.op<0\/(0<=v.op/\13<v.op)\/((0<=v.op/\v.op<=13)/\v.len<1)\/((0<=v.op/\v.op<=13)/\1<=v.len/\1000<v.len)) with h|⟨h,h'⟩|⟨⟨h,h'⟩,c⟩|⟨⟨h,h'⟩,c,f⟩
 all_goals
  clear ab
  go_enter func44,ntmps44
  go_wp2
  go_ret
  exact⟨rfl,(ez 0 0 w _).trans (ez 0 0 _ _)⟩):Zp:=h
open dE in
theorem Dl(w a1 a3 n1 c1 T c2 n3 c3 ap bO i v)(aR:ap<w.heap.size)(hi:i<T)(be:At w ap (bO+i*6) v)(ab:¬(0<=v.op/\v.op<=13/\1<=v.len/\v.len<=1000)):
  Calls prog 44 #[eV a1 n1 c1 (some ⟨ap,bO,none⟩) T c2 a3 n3 c3,hD i] w λe I=>e=.returned (.bool false)/\Kept 0 0 w I:=by
 exact qev
theorem dH.qgs(h:Zp:=by
 clear aU;rcases f.at_ with ae|⟨bA,ch,rfl,O,ax,Z,av⟩
 ·omega
 have c1:=iF P Z (av j hj);clear av f O ax P;generalize ins.getD j 0=y at c1⊢;have b9:0<=(j:Int):=xaa;have bK:(j:Int)<n1:=xaa;cases aP:(len==y)<;>cases aY:(R==0)<;>cases bW:(C==0)
 all_goals
  go_enter func44,ntmps44
  go_wp2_with fail
  generalize c:(w.alloc (eW (some ⟨bA,ch,none⟩) n1 l (some ⟨ap,bO,none⟩) T c2 a3 n3 c3)).alloc (fB 0 len j R C K)=g at bD c1 bd aL aJ bu d1 d2 d3 H aj⊢
  clear c
  go_quiet (fail)
  go_wp2
  go_ret
  exact⟨rfl,bD.o.trans (eK 0 0 _ _)⟩):Zp:=h
open dH in
theorem yN(w a1 a3 n1 l T c2 n3 c3 ap bO i len A R C K ins)(f:IS w 0 w.heap.size a1 n1 ins)(aR:ap<w.heap.size)(hi:i<T)(be:At w ap (bO+i*6) ⟨0,len,A,R,C,K⟩)(ck:1<=len)(cz:len<=1000):
  Calls prog 44 #[eV a1 n1 l (some ⟨ap,bO,none⟩) T c2 a3 n3 c3,hD i] w λe I=>e=.returned (.bool (((fJ A n1&&len==ins.getD A.toNat 0)&&R==0)&&C==0))/\Kept 0 0 w I:=by
 have aw:=ez 0 0 w (eW a1 n1 l (some ⟨ap,bO,none⟩) T c2 a3 n3 c3);obtain⟨bc,e1,e2,af,e4,bo⟩:=be.keep aR aw yaa;have P:=aw.trans (ez 0 0 _ (fB 0 len A R C K));have aS:=qA w (.slice a1 n1 l) (.slice (some ⟨ap,bO,none⟩) T c2) (.slice a3 n3 c3) ⟨0,len,A,R,C,K⟩;clear be aw;simp only at bc e1 e2 af e4 bo;obtain⟨_,bd,aL,aJ,m⟩:=aS;obtain⟨bu,d1,d2,d3,H,aj⟩:=m;simp only at bu d1 d2 d3 H aj;have bD:V _:=P;by_cases aU:0<=A/\A<n1
 ·exact qgr
 rw[show fJ A n1=false from yay aU];simp only[Bool.false_and];clear P f;rcases (by omega:A<0\/(0<=A/\(n1:Int)<=A)) with h|⟨h,h'⟩
 ·have aP:decide (0<=A)=false:=yay xaa;exact xds
 have aP:decide (0<=A)=true:=decide_eq_true h;have aY:decide (A<(n1:Int))=false:=yay xaa;exact xds
