import Derived.Test.YtcagphgmfbjneaaGreatP10
namespace Go.Proofs.Z
open Tryz
set_option maxRecDepth 1000000
set_option maxHeartbeats 0
open Go.RowKit Flt
attribute[local go_sem] eE eD eC
theorem DM(w a1 a3 Z c1 ae c2 ab c3 a0 b9 i v)(aK:a0<w.heap.size)(hi:i<ae)(bw:At w a0 (b9+i*6) v)(ai:¬(0<=v.op/\v.op<=13/\1<=v.len/\v.len<=1000)):
  Calls prog 86 #[eX a1 Z c1 (some ⟨a0,b9,none⟩) ae c2 a3 ab c3,h1 i] w λe B=>e=.returned (.bool false)/\Kept 0 0 w B:=by
 have aG:=eA 0 0 w (fx a1 Z c1 (some ⟨a0,b9,none⟩) ae c2 a3 ab c3);obtain⟨cj,af,bg,ah,e4,ce⟩:=bw.keep aK aG yaa;clear bw aG;rcases (by omega:v.op<0\/(0<=v.op/\13<v.op)\/((0<=v.op/\v.op<=13)/\v.len<1)\/((0<=v.op/\v.op<=13)/\1<=v.len/\1000<v.len)) with h|⟨h,h'⟩|⟨⟨h,h'⟩,a⟩|⟨⟨h,h'⟩,a,b⟩
 all_goals
  clear ai
  go_enter func86,ntmps86
  go_wp2
  go_ret
  exact⟨rfl,(eA 0 0 w _).trans (eA 0 0 _ _)⟩
theorem zJ(w a1 a3 Z cN ae c2 ab c3 a0 b9 i len A I C K ins)(f:IS w 0 w.heap.size a1 Z ins)(aK:a0<w.heap.size)(hi:i<ae)(bw:At w a0 (b9+i*6) ⟨0,len,A,I,C,K⟩)(ci:1<=len)(cz:len<=1000):
  Calls prog 86 #[eX a1 Z cN (some ⟨a0,b9,none⟩) ae c2 a3 ab c3,h1 i] w λe B=>e=.returned (.bool (((gm A Z&&len==ins.getD A.toNat 0)&&I==0)&&C==0))/\Kept 0 0 w B:=by
 have aG:=eA 0 0 w (fx a1 Z cN (some ⟨a0,b9,none⟩) ae c2 a3 ab c3);obtain⟨cj,af,bg,ah,e4,ce⟩:=bw.keep aK aG yaa;have J:=aG.trans (eA 0 0 _ (fW 0 len A I C K));have a7:=zu w (.slice a1 Z cN) (.slice (some ⟨a0,b9,none⟩) ae c2) (.slice a3 ab c3) ⟨0,len,A,I,C,K⟩;clear bw aG;simp only at cj af bg ah e4 ce;obtain⟨_,aP,ay,aB,b⟩:=a7;obtain⟨bR,aM,bi,aI,r,aC⟩:=b;simp only at bR aM bi aI r aC;have bQ:V _:=J;by_cases be:0<=A/\A<Z
 ·obtain⟨j,rfl⟩:∃j:Nat,A=j:=⟨A.toNat,by omega⟩
  rw[show gm (j:Int) Z=true from decide_eq_true be,Bool.true_and,Int.toNat_natCast];have hj:j<Z:=xaa;clear be;rcases f.at_ with ak|⟨b5,ch,rfl,U,aV,aa,b1⟩
  ·omega
  have c1:=iI J aa (b1 j hj);clear b1 f U aV J;generalize ins.getD j 0=y at c1⊢;have bE:0<=(j:Int):=xaa;have bm:(j:Int)<Z:=xaa;cases aS:(len==y)<;>cases a9:(I==0)<;>cases bV:(C==0)
  all_goals
   go_enter func86,ntmps86
   go_wp2_with fail
   generalize a:(w.alloc (fx (some ⟨b5,ch,none⟩) Z cN (some ⟨a0,b9,none⟩) ae c2 a3 ab c3)).alloc (fW 0 len j I C K)=d at bQ c1 aP ay aB bR aM bi aI r aC⊢
   clear a
   go_quiet (fail)
   go_wp2
   go_ret
   exact⟨rfl,bQ.o.trans (eH 0 0 _ _)⟩
 rw[show gm A Z=false from yay be];simp only[Bool.false_and];clear J f;rcases (by omega:A<0\/(0<=A/\(Z:Int)<=A)) with h|⟨h,h'⟩
 ·have aS:decide (0<=A)=false:=yay xaa;exact xdq
 have aS:decide (0<=A)=true:=decide_eq_true h;have a9:decide (A<(Z:Int))=false:=yay xaa;exact xdq
