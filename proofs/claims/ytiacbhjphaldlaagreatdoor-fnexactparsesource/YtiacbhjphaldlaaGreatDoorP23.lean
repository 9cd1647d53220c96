import Derived.Test.YtiacbhjphaldlaaGreatDoorP19
import Derived.Test.YtiacbhjphaldlaaGreatDoorP22
namespace Go.Proofs.Z
variable{Zp:Prop}
open Tryz Go.RowKit Flt
set_option maxRecDepth 1000000
set_option maxHeartbeats 0
section
attribute[local go_sem] dI dG dF
variable{w:World}{L U:Option Addr}{m1 K cap m3 ag base aJ i j ae:Nat}{vs:List Vl}{T aB aA aL la d F:Int}{a7:Nat}
theorem G.qau(h:Zp:=by
 unfold PtC;have r:=Q l;clear l;go_enter func113,ntmps113;go_wp2_with fail;rw[ax.o];clear bh aH aN aM aS aC ax;refine eG (LQ O xaa aK r.o ?_);exact no_implicit_lambda% xah):Zp:=h
open G in
theorem L9(Y:MvH w cap base aJ i vs ⟨9,T,(j:Int),aA,aL,a7⟩)(aK:j<vs.length)(l:(vs.getD j h7).len=la):PtC w L U m1 K cap m3 ag base aJ i vs 0 d ([dL 10 la d 0 0],((vs.length:Nat):Int)) true:=by
 exact qat
theorem t.qak(h:Zp:=by
 refine eG (LU O xaa ?_);exact no_implicit_lambda% xah):Zp:=h
open t in
theorem Ih(Y:MvH w cap base aJ i vs ⟨10,T,aB,aA,aL,a7⟩):PtC w L U m1 K cap m3 ag base aJ i vs 0 d ([dL 9 1 d 0 0],((vs.length:Nat):Int)) true:=by
 exact qaj
theorem H.qau(h:Zp:=by
 unfold PtC;have r:=Q l;clear l;go_enter func113,ntmps113;go_wp2_with fail;rw[ax.o];clear bh aH aN aM aS aC ax;refine eG (LS O xaa aK r.o ?_);exact no_implicit_lambda% xah):Zp:=h
open H in
theorem Ii(Y:MvH w cap base aJ i vs ⟨11,T,(j:Int),aA,aL,a7⟩)(aK:j<vs.length)(l:(vs.getD j h7).len=la):PtC w L U m1 K cap m3 ag base aJ i vs 0 d ([dL 12 la d 0 aL],((vs.length:Nat):Int)) true:=by
 exact qat
end
section
theorem Ma(w L U m1 K cap m3 ag base aJ i vs v la k d)(h:w.ownsRow base 74 6 (hZ aJ vs.length cap) vs.length (f9 vs))(I:base<=w.heap.size)(V:vs.length<=800000)(hi:i<vs.length)(aD:At w aJ (i*6) v)
  (be:0<=v.op/\v.op<=13) (H:k<cnt v.op) (l:(v.op=9\/v.op=11)->∃j:Nat,v.a=(j:Int)/\j<vs.length/\(vs.getD j h7).len=la):
  Calls prog 113 #[fj L m1 K (some ⟨aJ,0,none⟩) vs.length cap U m3 ag,h0 i,h0 k,h0 d] w λe D=>PtP w L m1 K U m3 ag vs base (some aJ) (ptM (i:Int) v la k d vs.length) (i8 v k) e D:=by
 obtain⟨o,T,aB,aA,aL,a7⟩:=v;have Y:MvH w _ _ _ i _ _:=⟨h,I,V,hi,aD⟩
 clear h I V hi aD;simp only at be H l;have aj:o=2\/o=3\/o=4\/o=5\/o=6\/o=7\/o=8\/o=9\/o=10\/o=11\/o=12\/o=13:=by grind[cnt]
 obtain rfl|rfl|rfl|rfl|rfl|rfl|rfl|rfl|rfl|rfl|rfl|rfl:=aj
 ·have e:ptM i ⟨2,T,aB,aA,aL,a7⟩ la k d vs.length=([],d):=by simp[ptM,iR,i8]
  rw[e,show i8 _ k=true by simp[i8]];exact LX Y
 ·obtain rfl|rfl:=(by have:cnt 3=2:=rfl;omega:k=0\/k=1)
  ·exact H7 Y
  exact H8 Y
 ·have e:ptM i ⟨4,T,aB,aA,aL,a7⟩ la k d vs.length=([dL 4 T d (fld ⟨4,T,aB,aA,aL,a7⟩ (1-k)) 0],(vs.length:Int)):=by
   obtain rfl|rfl:=(by have:cnt 4=2:=rfl;omega:k=0\/k=1)<;>rfl
  rw[e,show i8 _ k=true by simp[i8]];exact LZ Y H rfl
 ·obtain rfl|rfl:=(by have:cnt 5=2:=rfl;omega:k=0\/k=1)
  ·exact Ib Y
  exact Ig Y
 ·obtain rfl:k=0:=by have:cnt 6=1:=rfl;omega
  exact LY Y
 ·obtain rfl|rfl:=(by have:cnt 7=2:=rfl;omega:k=0\/k=1)
  ·exact Ic Y
  exact Id Y
 ·obtain rfl|rfl|rfl:=(by have:cnt 8=3:=rfl;omega:k=0\/k=1\/k=2)
  ·exact Ia Y
  ·exact Ie Y
  exact If Y
 ·obtain rfl:k=0:=by have:cnt 9=1:=rfl;omega
  obtain⟨j,rfl,aK,ab⟩:=l (.inl rfl);exact L9 Y aK ab
 ·obtain rfl:k=0:=by have:cnt 10=1:=rfl;omega
  exact Ih Y
 ·obtain rfl:k=0:=by have:cnt 11=1:=rfl;omega
  obtain⟨j,rfl,aK,ab⟩:=l (.inr rfl);exact Ii Y aK ab
 ·obtain rfl:k=0:=by have:cnt 12=1:=rfl;omega
  exact L8 Y
 obtain rfl:k=0:=by have:cnt 13=1:=rfl;omega
 exact L4 Y
