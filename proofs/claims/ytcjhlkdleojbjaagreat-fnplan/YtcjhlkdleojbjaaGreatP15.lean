import Derived.Test.YtcjhlkdleojbjaaGreatP09
namespace Go.Proofs.Z
variable{Zp:Prop}
open Tryz
set_option maxRecDepth 1000000
set_option maxHeartbeats 0
open Go.RowKit Flt
attribute[local go_sem] eF eE eD
theorem DJ(w a1 a3 Z c1 n2 c2 ab c3 aN bT i v)(aJ:aN<w.heap.size)(hi:i<n2)(a7:At w aN (bT+i*6) v)(af:¬(0<=v.op/\v.op<=13/\1<=v.len/\v.len<=1000)):
  Calls prog 19 #[eZ a1 Z c1 (some ⟨aN,bT,none⟩) n2 c2 a3 ab c3,hA i] w λe B=>e=.returned (.bool false)/\Kept 0 0 w B:=by
 have aI:=ez 0 0 w (e9 a1 Z c1 (some ⟨aN,bT,none⟩) n2 c2 a3 ab c3);obtain⟨b9,ae,a9,ai,e4,b7⟩:=a7.keep aJ aI yaa;clear a7 aI;rcases (by omega:v.op<0\/(0<=v.op/\13<v.op)\/((0<=v.op/\v.op<=13)/\v.len<1)\/((0<=v.op/\v.op<=13)/\1<=v.len/\1000<v.len)) with h|⟨h,h'⟩|⟨⟨h,h'⟩,g⟩|⟨⟨h,h'⟩,g,f⟩
 all_goals
  clear af
  go_enter func19,ntmps19
  go_wp2
  go_ret
  exact⟨rfl,(ez 0 0 w _).trans (ez 0 0 _ _)⟩
theorem cM.qev(h:Zp:=by
 clear a2;rcases f.at_ with al|⟨aq,cn,rfl,R,aS,aa,bi⟩
 ·omega
 have c1:=iD P aa (bi j hj);clear bi f R aS P;generalize ins.getD j 0=y at c1⊢;have bm:0<=(j:Int):=xaa;have aO:(j:Int)<Z:=xaa;cases aX:(len==y)<;>cases bb:(J==0)<;>cases co:(C==0)
 all_goals
  go_enter func19,ntmps19
  go_wp2_with fail
  generalize g:(w.alloc (e9 (some ⟨aq,cn,none⟩) Z l (some ⟨aN,bT,none⟩) n2 c2 a3 ab c3)).alloc (fH 0 len j J C K)=n at bB c1 aY aC aL bS aH bf Y bC bZ⊢
  clear g
  go_quiet (fail)
  go_wp2
  go_ret
  exact⟨rfl,bB.o.trans (eJ 0 0 _ _)⟩):Zp:=h
open cM in
theorem zi(w a1 a3 Z l n2 c2 ab c3 aN bT i len A J C K ins)(f:IS w 0 w.heap.size a1 Z ins)(aJ:aN<w.heap.size)(hi:i<n2)(a7:At w aN (bT+i*6) ⟨0,len,A,J,C,K⟩)(cf:1<=len)(b1:len<=1000):
  Calls prog 19 #[eZ a1 Z l (some ⟨aN,bT,none⟩) n2 c2 a3 ab c3,hA i] w λe B=>e=.returned (.bool (((fR A Z&&len==ins.getD A.toNat 0)&&J==0)&&C==0))/\Kept 0 0 w B:=by
 have aI:=ez 0 0 w (e9 a1 Z l (some ⟨aN,bT,none⟩) n2 c2 a3 ab c3);obtain⟨b9,ae,a9,ai,e4,b7⟩:=a7.keep aJ aI yaa;have P:=aI.trans (ez 0 0 _ (fH 0 len A J C K));have aT:=pZ w (.slice a1 Z l) (.slice (some ⟨aN,bT,none⟩) n2 c2) (.slice a3 ab c3) ⟨0,len,A,J,C,K⟩;clear a7 aI;simp only at b9 ae a9 ai e4 b7;obtain⟨_,aY,aC,aL,m⟩:=aT;obtain⟨bS,aH,bf,Y,bC,bZ⟩:=m;simp only at bS aH bf Y bC bZ;have bB:E _:=P;by_cases a2:0<=A/\A<Z
 ·exact qeu
 rw[show fR A Z=false from yay a2];simp only[Bool.false_and];clear P f;rcases (by omega:A<0\/(0<=A/\(Z:Int)<=A)) with h|⟨h,h'⟩
 ·have aX:decide (0<=A)=false:=yay xaa;exact xdj
 have aX:decide (0<=A)=true:=decide_eq_true h;have bb:decide (A<(Z:Int))=false:=yay xaa;exact xdj
