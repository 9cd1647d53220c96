import Derived.Test.YtkjahdegnkmejaaGreatP05
namespace Go.Proofs.Z
open Tryz
set_option maxRecDepth 1000000
set_option maxHeartbeats 0
open Go.RowKit Flt
attribute[local go_sem] eE eC eB
theorem CC(w a1 a3 Y c1 ae c2 aa c3 a2 ck i v)(az:a2<w.heap.size)(hi:i<ae)(bf:At w a2 (ck+i*6) v)(ag:¬(0<=v.op/\v.op<=13/\1<=v.len/\v.len<=1000)):
  Calls prog 67 #[eX a1 Y c1 (some ⟨a2,ck,none⟩) ae c2 a3 aa c3,ih i] w λe O=>e=.returned (.bool false)/\Kept 0 0 w O:=by
 have aS:=eA 0 0 w (fB a1 Y c1 (some ⟨a2,ck,none⟩) ae c2 a3 aa c3);obtain⟨bB,ad,be,ah,e4,cl⟩:=bf.keep az aS yaa;clear bf aS;rcases (by omega:v.op<0\/(0<=v.op/\13<v.op)\/((0<=v.op/\v.op<=13)/\v.len<1)\/((0<=v.op/\v.op<=13)/\1<=v.len/\1000<v.len)) with h|⟨h,h'⟩|⟨⟨h,h'⟩,b⟩|⟨⟨h,h'⟩,b,d⟩
 all_goals
  clear ag
  go_enter func67,ntmps67
  go_wp2
  go_ret
  exact⟨rfl,(eA 0 0 w _).trans (eA 0 0 _ _)⟩
theorem yu(w a1 a3 Y t ae c2 aa c3 a2 ck i len A I C bA ins)(f:IS w 0 w.heap.size a1 Y ins)(az:a2<w.heap.size)(hi:i<ae)(bf:At w a2 (ck+i*6) ⟨0,len,A,I,C,bA⟩)(cp:1<=len)(cw:len<=1000):
  Calls prog 67 #[eX a1 Y t (some ⟨a2,ck,none⟩) ae c2 a3 aa c3,ih i] w λe O=>e=.returned (.bool (((gn A Y&&len==ins.getD A.toNat 0)&&I==0)&&C==0))/\Kept 0 0 w O:=by
 have aS:=eA 0 0 w (fB a1 Y t (some ⟨a2,ck,none⟩) ae c2 a3 aa c3);obtain⟨bB,ad,be,ah,e4,cl⟩:=bf.keep az aS yaa;have d:=aS.trans (eA 0 0 _ (iK 0 len A I C bA));have aZ:=yq w (.slice a1 Y t) (.slice (some ⟨a2,ck,none⟩) ae c2) (.slice a3 aa c3) ⟨0,len,A,I,C,bA⟩;clear bf aS;simp only at bB ad be ah e4 cl;obtain⟨_,aU,ax,aF,b⟩:=aZ;obtain⟨bT,aX,bk,ab,r,l⟩:=b;simp only at bT aX bk ab r l;have bN:V _:=d;by_cases bl:0<=A/\A<Y
 ·obtain⟨j,rfl⟩:∃j:Nat,A=j:=⟨A.toNat,by omega⟩
  rw[show gn (j:Int) Y=true from decide_eq_true bl,Bool.true_and,Int.toNat_natCast];have hj:j<Y:=xaa;clear bl;rcases f.at_ with aj|⟨ca,cy,rfl,R,a6,U,bZ⟩
  ·omega
  have c1:=mH d U (bZ j hj);clear bZ f R a6 d;generalize ins.getD j 0=y at c1⊢;have cd:0<=(j:Int):=xaa;have bh:(j:Int)<Y:=xaa;cases aW:(len==y)<;>cases bd:(I==0)<;>cases cu:(C==0)
  all_goals
   go_enter func67,ntmps67
   go_wp2_with fail
   generalize g:(w.alloc (fB (some ⟨ca,cy,none⟩) Y t (some ⟨a2,ck,none⟩) ae c2 a3 aa c3)).alloc (iK 0 len j I C bA)=k at bN c1 aU ax aF bT aX bk ab r l⊢
   clear g
   go_quiet (fail)
   go_wp2
   go_ret
   exact⟨rfl,bN.o.trans (eJ 0 0 _ _)⟩
 rw[show gn A Y=false from yay bl];simp only[Bool.false_and];clear d f;rcases (by omega:A<0\/(0<=A/\(Y:Int)<=A)) with h|⟨h,h'⟩
 ·have aW:decide (0<=A)=false:=yay xaa;exact xdx
 have aW:decide (0<=A)=true:=decide_eq_true h;have bd:decide (A<(Y:Int))=false:=yay xaa;exact xdx
