import Derived.Test.YtamokkcfibdghaaGreatP08
namespace Go.Proofs.Z
variable {Zp:Prop}
open Tryz
set_option maxRecDepth 1000000
set_option maxHeartbeats 0
open Go.RowKit Flt
attribute [local go_sem] eG eE eD
theorem CQ(w a1 a3 Y c1 U c2 Z c3 ag bS i v)(aW:ag<w.heap.size)(hi:i<U)(bg:At w ag (bS+i*6) v)(ah:¬(0<=v.op/\v.op<=13/\1<=v.len/\v.len<=1000)):
  Calls prog 16 #[eZ a1 Y c1 (some ⟨ag,bS,none⟩) U c2 a3 Z c3,hI i] w λe J=>e=.returned (.bool false)/\Kept 0 0 w J:=by
 have aH:=ez 0 0 w (eY a1 Y c1 (some ⟨ag,bS,none⟩) U c2 a3 Z c3);obtain⟨bl,ae,a9,ak,e4,bx⟩:=bg.keep aW aH yaa;clear bg aH;rcases (by omega:v.op<0\/(0<=v.op/\13<v.op)\/((0<=v.op/\v.op<=13)/\v.len<1)\/((0<=v.op/\v.op<=13)/\1<=v.len/\1000<v.len)) with h|⟨h,h'⟩|⟨⟨h,h'⟩,f⟩|⟨⟨h,h'⟩,f,g⟩
 all_goals
  clear ah
  go_enter func16,ntmps16
  go_wp2
  go_ret
  exact⟨rfl,(ez 0 0 w _).trans (ez 0 0 _ _)⟩
theorem dJ.qfo(h:Zp:=by
 clear a7;rcases f.at_ with aj|⟨br,b1,rfl,N,aA,ab,aI⟩
 ·omega
 have c1:=jh F ab (aI j hj);clear aI f N aA F;generalize ins.getD j 0=y at c1⊢;have b4:0<=(j:Int):=xaa;have bi:(j:Int)<Y:=xaa;cases aQ:(len==y)<;>cases a6:(I==0)<;>cases bK:(C==0)
 all_goals
  go_enter func16,ntmps16
  go_wp2_with fail
  generalize g:(w.alloc (eY (some ⟨br,b1,none⟩) Y aa (some ⟨ag,bS,none⟩) U c2 a3 Z c3)).alloc (eK 0 len j I C K)=m at bN c1 ba aO aR bD d1 d2 d3 d4 d5⊢
  clear g
  go_quiet (fail)
  go_wp2
  go_ret
  exact⟨rfl,bN.o.trans (eM 0 0 _ _)⟩):Zp:=h
open dJ in
theorem yB(w a1 a3 Y aa U c2 Z c3 ag bS i len A I C K ins)(f:IS w 0 w.heap.size a1 Y ins)(aW:ag<w.heap.size)(hi:i<U)(bg:At w ag (bS+i*6) ⟨0,len,A,I,C,K⟩)(cf:1<=len)(l:len<=1000):
  Calls prog 16 #[eZ a1 Y aa (some ⟨ag,bS,none⟩) U c2 a3 Z c3,hI i] w λe J=>e=.returned (.bool (((fI A Y&&len==ins.getD A.toNat 0)&&I==0)&&C==0))/\Kept 0 0 w J:=by
 have aH:=ez 0 0 w (eY a1 Y aa (some ⟨ag,bS,none⟩) U c2 a3 Z c3);obtain⟨bl,ae,a9,ak,e4,bx⟩:=bg.keep aW aH yaa;have F:=aH.trans (ez 0 0 _ (eK 0 len A I C K));have aS:=qm w (.slice a1 Y aa) (.slice (some ⟨ag,bS,none⟩) U c2) (.slice a3 Z c3) ⟨0,len,A,I,C,K⟩;clear bg aH;simp only at bl ae a9 ak e4 bx;obtain⟨_,ba,aO,aR,n⟩:=aS;obtain⟨bD,d1,d2,d3,d4,d5⟩:=n;simp only at bD d1 d2 d3 d4 d5;have bN:V _:=F;by_cases a7:0<=A/\A<Y
 ·exact qfn
 rw[show fI A Y=false from yax a7];simp only[Bool.false_and];clear F f;rcases (by omega:A<0\/(0<=A/\(Y:Int)<=A)) with h|⟨h,h'⟩
 ·have aQ:decide (0<=A)=false:=yax xaa;exact xez
 have aQ:decide (0<=A)=true:=decide_eq_true h;have a6:decide (A<(Y:Int))=false:=yax xaa;exact xez
