import Derived.Test.YtaheilbiakhlgaaGreatP18
import Derived.Test.YtaheilbiakhlgaaGreatP11
import Derived.Test.YtaheilbiakhlgaaGreatP08
namespace Go.Proofs.Z
variable{Zp:Prop}
open Tryz Go.RowKit Flt
set_option maxRecDepth 1000000
set_option maxHeartbeats 0
section
variable{w J:World}{a:Option Addr}{P n cap i h:Nat}{bs:List Int}
abbrev eO(l:List UInt8):Value:=.string ⟨l.toArray⟩
theorem sZ(a b:List UInt8):(⟨a.toArray⟩:ByteArray)++⟨b.toArray⟩=⟨(a++b).toArray⟩:=by
 apply ByteArray.ext;simp
def gY(n:Nat):List UInt8:=if n<10 then[UInt8.ofNat (48+n)]else gY (n/10)++gY (n%10)
termination_by n
decreasing_by all_goals omega
theorem jR(n):(gY n).length<=n+1:=by
 rw[gY];split
 ·simp
 rw[yak];have B:=jR (n/10);have U:(gY (n%10)).length=1:=by rw[gY,hI xaa];rfl
 omega
termination_by n
decreasing_by all_goals omega
theorem gu(l:List UInt8):(⟨l.toArray⟩:ByteArray).size=l.length:=by simp[ByteArray.size]
theorem Jq:∀k:Fin 10,({data:=#[48,49,50,51,52,53,54,55,56,57]}:ByteArray).extract k.1 (k.1+1)=⟨#[UInt8.ofNat (48+k.1)]⟩:=by decide+kernel
theorem uP(n:Nat)(hn:n<10)(w):Calls prog 63 #[hF n] w λe J=>e=.returned (eO (gY n))/\J=w:=by
 have G:gY n=[UInt8.ofNat (48+n)]:=by rw[gY,hI hn]
 have ap:({data:=#[48,49,50,51,52,53,54,55,56,57]}:ByteArray).extract n (n+1)=⟨(gY n).toArray⟩:=by rw[G];exact Jq ⟨n,hn⟩
 unfold eO;generalize (⟨(gY n).toArray⟩:ByteArray)=f at ap;have aO:(n:Int)<10:=xaa;have aX:IntKind.i64.wrap ((n:Int)+1)=(n:Int)+1:=by rw[IntKind.wrap_i64];omega
 have ah:0<=(n:Int):=xaa;clear G;go_enter func63,ntmps63;go_wp2;go_ret;exact⟨rfl,rfl⟩
theorem yC:∀(bK n:Nat),n<=bK->n<=1000000->∀w:World,Calls prog 63 #[hF n] w λe J=>e=.returned (eO (gY n))/\J=w:=by
 intro bK;induction bK with
 |zero=>
  intro n h _ w;exact uP n xaa w
 |succ bK al=>
  intro n h hb w;by_cases hn:n<10
  ·exact uP n hn w
  have G:gY n=gY (n/10)++gY (n%10):=by rw[gY,hG hn]
  have H1:V (∀w:World,Calls prog 63 #[hF ((n:Int)/10)] w λe J=>e=.returned (eO (gY (n/10)))/\J=w):=al (n/10) xaa xaa;have H2:V (∀w:World,Calls prog 63 #[hF ((n:Int)%10)] w λe J=>e=.returned (eO (gY (n%10)))/\J=w):=al (n%10) xaa xaa;have aO:¬((n:Int)<10):=xaa;unfold eO at H1 H2⊢;rw[G,<-sZ]
  have bz:¬(9223372036854775807<(⟨(gY (n/10)).toArray⟩:ByteArray).size+(⟨(gY (n%10)).toArray⟩:ByteArray).size):=by
   rw[gu,gu];have:=jR (n/10);have:=jR (n%10);omega
  generalize (⟨(gY (n/10)).toArray⟩:ByteArray)=a at H1 bz;generalize (⟨(gY (n%10)).toArray⟩:ByteArray)=b at H2 bz;clear al G;go_enter func63,ntmps63;go_wp2_with fail;refine yai (H1.o w) ?_;rintro e aG ⟨rfl,rfl⟩;go_wp2_with fail;refine yai (H2.o aG) ?_;rintro e ag ⟨rfl,rfl⟩;go_wp2_with fail;go_ret;exact⟨rfl,rfl⟩
structure RdF(w:World)(P:Nat)(a:Option Addr)(n cap i:Nat)(bs:List Int):Prop where
 lt:P<w.heap.size
 c0:w.cell? ⟨P,0,none⟩=some (.slice a n cap)
 c1:w.cell? ⟨P,1,none⟩=some (.int .i64 (i:Int))
 fz:w.frozen? ⟨P,1,none⟩=false
 hi:i<=n
 small:n<=500
 ys:YS w a n bs
 ne:0<n->∀g off,a=some ⟨g,off,none⟩->g<P
theorem Fs{xs}(f:YS w a n xs)(k:Kept P h w J)(ne:0<n->∀g off,a=some ⟨g,off,none⟩->g<P):YS J a n xs:=
 ⟨f.len,f.lt,f.at_.imp id λ⟨g,off,e,h3,a6⟩=>⟨g,off,e,yaj h3 k.size,λj hj=>by rw[k.cell (p:=⟨g,off+j,none⟩) h3 (by have:=ne xaa g off e;show ¬(P<=g/\g<h);omega)];exact a6 j hj⟩⟩
theorem RdF.keep{l}(f:RdF w P a n cap i bs)(k:Kept l h w J)(G:P<l\/h<=l):RdF J P a n cap i bs where
 lt:=yaj f.lt k.size
 c0:=by rw[k.cell (p:=⟨P,0,none⟩) f.lt (by show ¬(l<=P/\P<h);omega)];exact f.c0
 c1:=by rw[k.cell (p:=⟨P,1,none⟩) f.lt (by show ¬(l<=P/\P<h);omega)];exact f.c1
 fz:=by rw[k.frozen (p:=⟨P,1,none⟩) f.lt (by show ¬(l<=P/\P<h);omega)];exact f.fz
 hi:=f.hi
 small:=f.small
 ys:=⟨f.ys.len,f.ys.lt,f.ys.at_.imp id λ⟨g,off,e,h3,a6⟩=>⟨g,off,e,yaj h3 k.size,λj hj=>by rw[k.cell (p:=⟨g,off+j,none⟩) h3 (by have:=f.ne xaa g off e;show ¬(l<=g/\g<h);omega)];exact a6 j hj⟩⟩
 ne:=f.ne
def nv(bs:List Int)(i:Nat):Nat:=(bs.getD i 0).toNat
def ni(bs:List Int)(i:Nat):Nat:=if i<bs.length then i+1 else i
theorem fU(f:YS w a n bs)(i):nv bs i<256:=by
 unfold nv;by_cases h:i<bs.length
 ·have:=f.lt _ (List.getElem_mem h);rw[yah,yal h];show(bs[i]).toNat<256;omega
 rw[yah,List.getElem?_eq_none xaa];decide
theorem Jr(f:RdF w P a n cap i bs)(hi:i<n):
  RdF (w.setCell ⟨P,1,none⟩ (hF ((i:Int)+1))) P a n cap (i+1) bs/\Kept P (P+1) w (w.setCell ⟨P,1,none⟩ (hF ((i:Int)+1)))/\(w.setCell ⟨P,1,none⟩ (hF ((i:Int)+1))).heap.size=w.heap.size:=by
 have al:Kept P (P+1) w (w.setCell ⟨P,1,none⟩ (hF ((i:Int)+1))):=eU w ⟨P,1,none⟩ _ yac;exact⟨⟨by simpa using f.lt,by rw[World.cell?_setCell_other (h:=by simp)];exact f.c0,by rw[World.cell?_setCell_same (h:=f.c1)];rfl,by rw[World.frozen?_setCell];exact f.fz,hi,f.small,Fs f.ys al f.ne,f.ne⟩,al,by simp⟩
theorem jg(w P a n cap i bs)(f:RdF w P a n cap i bs):
  Calls prog 32 #[hD P] w λe J=>e=.returned (hF (nv bs i:Int))/\RdF J P a n cap (ni bs i) bs/\Kept P (P+1) w J/\J.heap.size=w.heap.size:=by
 have ai:=f.c0;have B:=f.c1;have hn:=f.small;have ah:=f.ys.len;by_cases hi:i<n
 ·have U:=f.fz
  obtain⟨I,off,rfl,aT,ap⟩:∃I off,a=some ⟨I,off,none⟩/\I<w.heap.size/\w.cell? ⟨I,off+i,none⟩=some (.int .u8 (bs.getD i 0)):=by
   rcases f.ys.at_ with q|⟨g,off,e,h3,a6⟩
   ·omega
   exact⟨g,off,e,h3,a6 i hi⟩
  have hb:0<=bs.getD i 0/\bs.getD i 0<256:=by
   rw[yah,yal xaa];exact f.ys.lt _ (List.getElem_mem _)
  obtain⟨a9,cq⟩:=hb;have aM:(nv bs i:Int)=bs.getD i 0:=by unfold nv;omega
  have j:ni bs i=i+1:=by unfold ni;rw[hI xaa]
  have aL:V _:=f;rw[aM,j];generalize bs.getD i 0=x at ap a9 cq aM;clear f aM j aT;go_enter func32,ntmps32;go_wp2;go_quiet (fail)
  go_wp2;go_quiet (fail)
  go_wp2;go_ret;have H:=eL P (P+1) w;obtain⟨az,aZ,ar⟩:=Jr (aL.o.keep (eL 0 0 w _) yab) hi;exact⟨rfl,az,(H _).trans aZ,ar⟩
 have aM:(nv bs i:Int)=0:=by
  unfold nv;rw[yah,List.getElem?_eq_none xaa];rfl
 have j:ni bs i=i:=by unfold ni;rw[hG xaa]
 have aL:V _:=f;rw[aM,j];have hi:n<=i:=xaa;clear f aM j;go_enter func32,ntmps32;go_wp2;go_quiet (fail)
 go_wp2;go_ret;exact⟨rfl,aL.o.keep (eL 0 0 _ _) yab,eL _ _ _ _,rfl⟩
end
section
attribute[local go_sem] eF eE eD
variable{w J:World}{lo hi i n:Nat}{S:Nat->Prop}{a:Option Addr}{vs:List Vl}
theorem VS.at_idx(f:VS w lo hi a n vs)(h:i<n):∃g off,a=some ⟨g,off,none⟩/\g<w.heap.size/\g<hi/\lo<=g/\At w g (off+i*6) (vs.getD i hK):=by
 rcases f.at_ with z|⟨g,off,e,aS,bb,bq,bD⟩
 ·omega
 exact⟨g,_,e,bq,bb,aS,bD i h⟩
theorem VS.keepC(f:VS w lo hi a n vs)(k:Chg S w J)(G:∀g,lo<=g->g<hi->¬S g):VS J lo hi a n vs:=
 ⟨f.len,f.lt,by
  rcases f.at_ with z|⟨g,off,e,aS,bb,bq,bD⟩
  ·exact .inl z
  ·refine .inr ⟨g,_,e,aS,bb,yaj bq k.size,λj hj=>?_⟩
   have e:∀o,_:=λo=>k.cell (p:=⟨g,o,none⟩) bq (G g aS bb)
   obtain⟨c0,c1,c2,c3,c4,c5⟩:=bD j hj
   exact⟨hR e c0,hR e c1,hR e c2,hR e c3,hR e c4,hR e c5⟩⟩
theorem IS.keepC{xs}(f:IS w lo hi a n xs)(k:Chg S w J)(G:∀g,lo<=g->g<hi->¬S g):IS J lo hi a n xs:=
 ⟨f.len,by
  rcases f.at_ with z|⟨g,off,e,aS,bb,bq,bD⟩
  ·exact .inl z
  ·exact .inr ⟨g,_,e,aS,bb,yaj bq k.size,λj hj=>by rw[k.cell bq (G g aS bb)];exact bD j hj⟩⟩
theorem uQ(v){q}(ao:q<cnt v.op):(eY v).getD q 0=fld v q:=by
 have:=gK v.op;unfold eY;rw[yah,List.getElem?_take_of_lt ao];rcases (by omega:q=0\/q=1\/q=2) with rfl|rfl|rfl<;>rfl
theorem Ft(op)(ai:0<=op)(B:op<=13)(w):Calls prog 42 #[hF op] w λe J=>e=.returned (hF (cnt op:Nat))/\w=J:=by
 have:=e8 _ w ai B;rw[Mq ai B]at this;exact this.mono λ_ _ h=>⟨h.1,h.2.symm⟩
theorem cQ.qcv(h:Zp:=by
 rw[k.block g aQ (G g (hU af))];exact aD):Zp:=h
open cQ in
theorem fI{base e size:Nat}{v xs W W'}(o:W.ownsRow base e size v n xs)(k:Chg S W W')(G:∀g,v.ownBlock=some g->¬S g):W'.ownsRow base e size v n xs:=by
 exact qcu
theorem gX{ay}(h:w.grownBy J ay):Chg (λb=>ay=some b) w J:=
 ⟨h.os,h.tape,h.output,h.size,λk O hn=>h.block k O (λc=>hn c.symm)⟩
theorem Fu{outs:List Int}{k}(O:k<outs.length)(h:(outs.take k).any (λo=>o==(i:Int))=false)(t:(outs.getD k 0==(i:Int))=false):(outs.take (k+1)).any (λo=>o==(i:Int))=false:=by
 rw[yat O,List.any_append,h];exact xjz
theorem Fv(w N aD ad Y c1 ab c2 aa c3 i lo hi outs)(f:IS w lo hi ad aa outs)(hn:aa<=1000000):
  Calls prog 110 #[eX N Y c1 aD ab c2 ad aa c3,hF (i:Nat)] w λe J=>e=.returned (.bool (isO outs i))/\Kept 0 0 w J:=by
 have H:=ez 0 0 w (eZ N Y c1 aD ab c2 ad aa c3);have aH:V _:=fO w (.slice N Y c1) (.slice aD ab c2) (.slice ad aa c3);have aL:V _:=f.keep H yaa;have HL:V (outs.length=aa):=f.len;have HK:V _:=H;clear f H;go_enter func110,ntmps110;go_wp2_with fail;generalize w.alloc (eZ N Y c1 aD ab c2 ad aa c3)=aG at aH aL HK⊢;go_loop [5] (λx=>∃k:Nat,k<=aa/\x=hF k/\V ((outs.take k).any (λo=>o==(i:Int))=false)) (λx=>aa-(intOf x).toNat)
 case atStart=>exact⟨0,Nat.zero_le _,rfl,rfl⟩
 case round=>
  obtain⟨k,O,rfl,a2⟩:=hrel;obtain⟨_,a7,aK,aP⟩:=aH.o;by_cases aB:k<aa
  ·obtain⟨g,off,m,rfl,em,aw,aQ,br⟩:=aL.o.at_idx (o:=k) xaa xaa;obtain rfl:k=m:=xaa;rw[Int.toNat_natCast]at br;cases t:(outs.getD k 0==(i:Int))
   ·have R:V _:=Fu (hR HL.o aB) a2.o t;generalize outs.getD k 0=x at br t;clear a2;exact xds
   have R:V (isO outs i=true):=by
    show _=_;unfold isO;rw[List.any_eq_true];exact⟨outs.getD k 0,jw (hR HL.o aB),t⟩
   generalize outs.getD k 0=x at br t;clear a2;go_wp2;go_ret;exact⟨hU R.o,HK.o⟩
  obtain rfl:k=aa:=xaa
  have R:V (isO outs i=false):=by
   exact xgp
  clear a2;go_wp2;go_ret;exact⟨hU R.o,HK.o⟩
end
section
variable{X t p r j:Nat}{s:Bool}
theorem uR{q}(ao:0<q)(ht:t<4503599627370496):val (q*4503599627370496+t)=(4503599627370496+t)*p2 (q-1):=by
 rw[qS];have af:M (q*4503599627370496+t)=4503599627370496+t:=by unfold M;rw[hG xaa];omega
 have a0:E (q*4503599627370496+t)=q-1:=by unfold E;omega
 rw[af,a0]
theorem OP:p2 52=4503599627370496:=xab
theorem OQ{a b}(h:a<=b):p2 a<=p2 b:=mQ h
theorem OS(ht:t<4503599627370496)(k):t*p2 k<p2 (52+k):=by
 rw[lY,OP];exact Nat.mul_lt_mul_of_pos_right ht (Eu k)
theorem MG(t)(ht:t<4503599627370496)(k)(O:k<=2046):∃r,val r=t*p2 k/\r<9218868437227405312:=by
 obtain⟨r,av⟩:=rep t xaa k;refine⟨r,av,zW ?_⟩;rw[av];exact yaj (OS ht k) (OQ xaa)
theorem Js(h:dbl p<9218868437227405312)(w):
  (binOp .mul 38 (.float .f64 (W false p)) (.float .f64 4611686018427387904)).run prog w=.ok (.float .f64 (W false (dbl p))) w:=
 run_float_arith w .mul 38 .f64 (W false p) 4611686018427387904 (W false (dbl p)) (Iy (s:=false) h)
theorem Jt(h:4503599627370496<=p):dbl p=p+4503599627370496:=by unfold dbl;rw[hG xaa]
theorem yD(t)(ht:t<4503599627370496):∃p,val p=t*p2 1074/\p<9218868437227405312/\floatOfInt .f64 (t:Int)=W false p:=by
 obtain⟨p,aF,ah⟩:=MG t ht 1074 xaa;refine⟨p,aF,ah,?_⟩;unfold floatOfInt FloatKind.nearest FloatKind.encode;show Ieee.double.write _=_;simp only[Ieee.Format.write,Int.natAbs_natCast];rw[show decide ((t:Int)<0)=false from yax xaa];exact ll false t 0 p 1074 0 ah (by rw[aF,show p2 0=1 from rfl,Nat.mul_one]) xaa
theorem mn(t)(ht:t<4503599627370496):∃p,val p=t*p2 1022/\p<9218868437227405312/\∀w,(binOp .quo 38 (.float .f64 (floatOfInt .f64 (t:Int))) (.float .f64 4841369599423283200)).run prog w=.ok (.float .f64 (W false p)) w:=by
 obtain⟨bi,aa,bx,ad⟩:=yD t ht;obtain⟨p,aF,ah⟩:=MG t ht 1022 xaa;refine⟨p,aF,ah,λw=>run_float_arith w .quo 38 .f64 _ _ _ ?_⟩;rw[ad];show Ieee.double.div (W false bi) (W false 4841369599423283200)=_;rw[uv (p:=p) bx xaa ah OC]
 ·rfl
 rw[aa,aF,OD,<-lY,Nat.mul_assoc,Nat.mul_assoc,<-lY,<-lY]
theorem yE(t p)(ht:t<4503599627370496)(aF:val p=t*p2 1022)(ah:p<9218868437227405312)(w):
  (binOp .add 38 (.float .f64 4607182418800017408) (.float .f64 (W false p))).run prog w=.ok (.float .f64 (W false (t+4607182418800017408))) w:=by
 refine run_float_arith w .add 38 .f64 _ _ _ ?_;show Ieee.double.add (W false 4607182418800017408) (W false p)=_;refine Cp xaa ah xaa ?_ (λh=>rfl);have a:=uR (q:=1023) xaa ht;have b:=uR (q:=1023) (t:=0) xaa xaa;rw[show 1023*4503599627370496+t=t+4607182418800017408 by omega]at a;rw[show 1023*4503599627370496+0=4607182418800017408 by omega]at b;rw[a,b,aF];simp only[sg,Bool.false_eq_true,if_false];rw[Nat.add_zero,show 1023-1=1022 from rfl,Nat.add_mul];omega
def up(X j:Nat):Nat:=X+j*4503599627370496
def dn(X j:Nat):Nat:=X-j*4503599627370496
theorem MH(ai:4503599627370496<=X)(h:up X (j+1)<9218868437227405312)(w):
  (binOp .mul 38 (.float .f64 (W false (up X j))) (.float .f64 4611686018427387904)).run prog w=.ok (.float .f64 (W false (up X (j+1)))) w:=by
 have e:dbl (up X j)=up X (j+1):=by
  rw[Jt (by unfold up;omega)];unfold up;rw[Nat.succ_mul,Nat.add_assoc]
 rw[<-e];exact Js (hR e h) w
theorem MI(ai:9007199254740992<=dn X j)(h:X<9218868437227405312)(w):
  (binOp .quo 38 (.float .f64 (W false (dn X j))) (.float .f64 4611686018427387904)).run prog w=.ok (.float .f64 (W false (dn X (j+1)))) w:=by
 have e:dn X j-4503599627370496=dn X (j+1):=by
  unfold dn;rw[Nat.succ_mul,Nat.sub_add_eq]
 rw[<-e];refine run_float_arith w .quo 38 .f64 _ 4611686018427387904 _ (Bn (s:=false) ?_ (Ew ai));have:dn X j<=X:=Nat.sub_le _ _;omega
theorem qA(r)(h:r<9223372036854775808)(w):(Op.unary .neg (.float .f64 (W false r))).run prog w=.ok (.float .f64 (W true r)) w:=by
 have:Op.negFloat FloatKind.f64 (W false r)=W true r:=Bm false h;rw[<-this];rfl
def qB(s:Bool)(r:Nat)(w:World)(e:Ending)(w':World):Prop:=e=.returned (.float .f64 (W s r))/\w'=w
theorem wU(s:Bool)(b q t:Nat)(w)(ao:(b:Int)/4503599627370496%2048=(q:Int))(ht:(b:Int)%4503599627370496=(t:Int))
  (ae:if s then 9223372036854775808<=(b:Int)else (b:Int)<9223372036854775808) (hb:b<18446744073709551616)
  (f:1023<q) (u:q<=2046) (g:t<4503599627370496):
  Calls prog 109 #[.int .u64 (b:Int)] w λe J=>qB s (up (t+4607182418800017408) (q-1023)) w e J:=by
 obtain⟨p,aF,ah,i⟩:=mn t g;have o:=yE t p g aF ah;have co:4503599627370496<=t+4607182418800017408:=xaa;have x:up (t+4607182418800017408) (q-1023)<9218868437227405312:=by unfold up;omega
 have y:∀j,j<=q-1023->up (t+4607182418800017408) j<=up (t+4607182418800017408) (q-1023):=λj hj=>by unfold up;exact Nat.add_le_add_left (Nat.mul_le_mul_right _ hj) _
 have n:∀j,j<q-1023->∀w,(binOp .mul 38 (.float .f64 (W false (up (t+4607182418800017408) j))) (.float .f64 4611686018427387904)).run prog w=.ok (.float .f64 (W false (up (t+4607182418800017408) (j+1)))) w:=
  λj hj=>MH co (Nat.lt_of_le_of_lt (y (j+1) hj) x)
 have ai:t+4607182418800017408=up (t+4607182418800017408) 0:=by unfold up;omega
 have aK:=qA (up (t+4607182418800017408) (q-1023)) xaa;clear aF ah co x y;generalize t+4607182418800017408=X at*;have l:V (X=up X 0):=ai;have au:V (∀j,j<q-1023->∀w,(binOp .mul 38 (.float .f64 (W false (up X j))) (.float .f64 4611686018427387904)).run prog w=.ok (.float .f64 (W false (up X (j+1)))) w):=n;have bw:V (∀w,(Op.unary .neg (.float .f64 (W false (up X (q-1023))))).run prog w=.ok (.float .f64 (W true (up X (q-1023)))) w):=aK;clear ai n aK;have Y:((q:Int)==2047)=false:=yam xaa;go_enter func109,ntmps109;go_wp2_with fail;clear i o ao ht g;go_loop [5,3] (λv e=>∃j:Nat,j<=q-1023/\v=.float .f64 (W false (up X j))/\e=hF ((q:Int)-j)) (λ_ e=>(intOf e).toNat)
 case atStart=>exact⟨0,by omega,by rw[<-l.o],by simp⟩
 case round=>
  obtain⟨j,hj,rfl,rfl⟩:=hrel;by_cases ak:j<q-1023
  ·exact xib
  obtain rfl:j=q-1023:=xaa;have m:=bw.o;clear ak hj;have U:((q-1023:Nat):Int)=(q:Int)-1023:=xaa;rw[U];clear U;go_wp2_with fail;go_loop [5,3] (λv e=>v=.float .f64 (W false (up X (q-1023)))/\e=hF 1023) (λ_ e=>0)
  case atStart=>exact⟨rfl,by congr 1;omega⟩
  case round=>
   obtain⟨rfl,rfl⟩:=hrel;clear hb f u;cases s
   ·have h:(b:Int)<9223372036854775808:=ae;have bY:decide (9223372036854775808<=(b:Int))=false:=yax xaa;clear ae h;go_wp2;go_ret;exact⟨rfl,rfl⟩
   have h:9223372036854775808<=(b:Int):=ae;have bY:decide (9223372036854775808<=(b:Int))=true:=decide_eq_true xaa;clear ae h;go_wp2;go_ret;exact⟨rfl,rfl⟩
theorem wV(s:Bool)(b q t:Nat)(w)(ao:(b:Int)/4503599627370496%2048=(q:Int))(ht:(b:Int)%4503599627370496=(t:Int))
  (ae:if s then 9223372036854775808<=(b:Int)else (b:Int)<9223372036854775808) (hb:b<18446744073709551616)
  (f:1<=q) (u:q<=1023) (g:t<4503599627370496):
  Calls prog 109 #[.int .u64 (b:Int)] w λe J=>qB s (dn (t+4607182418800017408) (1023-q)) w e J:=by
 obtain⟨p,aF,ah,i⟩:=mn t g;have o:=yE t p g aF ah
 have n:∀j,j<1023-q->∀w,(binOp .quo 38 (.float .f64 (W false (dn (t+4607182418800017408) j))) (.float .f64 4611686018427387904)).run prog w=.ok (.float .f64 (W false (dn (t+4607182418800017408) (j+1)))) w:=
  λj hj=>MI (by
   unfold dn
   have:j*4503599627370496<=1021*4503599627370496:=Nat.mul_le_mul_right _ xaa
   omega) xaa
 have ai:t+4607182418800017408=dn (t+4607182418800017408) 0:=by unfold dn;omega
 have aK:=qA (dn (t+4607182418800017408) (1023-q)) (by have:dn (t+4607182418800017408) (1023-q)<=t+4607182418800017408:=Nat.sub_le _ _;omega);clear aF ah;generalize t+4607182418800017408=X at*;have l:V (X=dn X 0):=ai;have au:V (∀j,j<1023-q->∀w,(binOp .quo 38 (.float .f64 (W false (dn X j))) (.float .f64 4611686018427387904)).run prog w=.ok (.float .f64 (W false (dn X (j+1)))) w):=n;have bw:V (∀w,(Op.unary .neg (.float .f64 (W false (dn X (1023-q))))).run prog w=.ok (.float .f64 (W true (dn X (1023-q)))) w):=aK;clear ai n aK;have Y:((q:Int)==2047)=false:=yam xaa;go_enter func109,ntmps109;go_wp2_with fail;clear i o ao ht g hb;go_loop [5,3] (λv e=>v=.float .f64 (W false X)/\e=hF q) (λ_ e=>0)
 case atStart=>exact⟨rfl,rfl⟩
 case round=>
  obtain⟨rfl,rfl⟩:=hrel;go_wp2_with fail;go_loop [5,3] (λv e=>∃j:Nat,j<=1023-q/\v=.float .f64 (W false (dn X j))/\e=hF ((q:Int)+j)) (λ_ e=>1023-(intOf e).toNat)
  case atStart=>exact⟨0,by omega,by rw[<-l.o],by simp⟩
  case round=>
   obtain⟨j,hj,rfl,rfl⟩:=hrel;by_cases ak:j<1023-q
   ·exact xib
   obtain rfl:j=1023-q:=xaa;have m:=bw.o;have U:((1023-q:Nat):Int)=1023-(q:Int):=xaa;rw[U];clear U ak hj;exact xdw
theorem Fw{k}(h:val p=t*p2 (k+1))(aF:p<9218868437227405312)(ht:t<4503599627370496)(O:k<=1022):
  ∃f,val f=t*p2 k/\f<9218868437227405312/\∀w,(binOp .quo 38 (.float .f64 (W false p)) (.float .f64 4611686018427387904)).run prog w=.ok (.float .f64 (W false f)) w:=by
 obtain⟨f,l,ah⟩:=MG t ht k xaa;refine⟨f,l,ah,λw=>run_float_arith w .quo 38 .f64 _ 4611686018427387904 _ (Bn (s:=false) aF ?_)⟩;rw[h,l,vH];exact Nat.mul_left_comm _ _ _
theorem wW(s:Bool)(b t:Nat)(w)(ao:(b:Int)/4503599627370496%2048=0)(ht:(b:Int)%4503599627370496=(t:Int))
  (ae:if s then 9223372036854775808<=(b:Int)else (b:Int)<9223372036854775808) (hb:b<18446744073709551616) (g:t<4503599627370496):
  Calls prog 109 #[.int .u64 (b:Int)] w λe J=>qB s t w e J:=by
 obtain⟨p,aF,ah,i⟩:=mn t g;have bw:V (∀w,(Op.unary .neg (.float .f64 (W false t))).run prog w=.ok (.float .f64 (W true t)) w):=qA t xaa;have aQ:V (val p=t*p2 1022):=aF;have ba:V (t<4503599627370496):=g;have HL:V (p<9218868437227405312):=ah;clear aF ah;go_enter func109,ntmps109;go_wp2_with fail;clear i ao ht g hb;go_loop [5,3] (λv e=>v=.float .f64 (W false p)/\e=hF 1) (λ_ e=>0)
 case atStart=>exact⟨rfl,rfl⟩
 case round=>
  obtain⟨rfl,rfl⟩:=hrel;go_wp2_with fail;go_loop [5,3] (λv e=>∃j f:Nat,j<=1022/\V (val f=t*p2 (1022-j))/\V (f<9218868437227405312)/\v=.float .f64 (W false f)/\e=hF (1+(j:Int))) (λ_ e=>1023-(intOf e).toNat)
  case atStart=>exact⟨0,p,by omega,aQ,HL,rfl,rfl⟩
  case round=>
   obtain⟨j,f,hj,aM,q,rfl,rfl⟩:=hrel;by_cases ak:j<1022
   ·obtain⟨o,l,cq,m⟩:=Fw (k:=1022-(j+1)) (by rw[aM.o,show 1022-(j+1)+1=1022-j by omega]) q.o ba.o xaa;have n:V (val o=t*p2 (1022-(j+1))):=l;have b0:V (o<9218868437227405312):=cq;clear l cq;go_wp2;go_round
    case rel=>exact⟨j+1,o,by omega,n,b0,rfl,by go_num⟩
    case measure=>simp[intOf];omega
   obtain rfl:j=1022:=xaa
   have h:f=t:=by
    have:=aM.o;rw[show 1022-1022=0 from rfl,show p2 0=1 from rfl,Nat.mul_one]at this;refine r7 (this.trans (oO ?_).symm);have:=ba.o;omega
   have m:=bw.o;rw[h];clear ak hj h;exact xdw
theorem wX(s:Bool)(b:Nat)(w)(ao:(b:Int)/4503599627370496%2048=2047)(ht:(b:Int)%4503599627370496=0)
  (ae:if s then 9223372036854775808<=(b:Int)else (b:Int)<9223372036854775808) (hb:b<18446744073709551616):
  Calls prog 109 #[.int .u64 (b:Int)] w λe J=>qB s 9218868437227405312 w e J:=by
 obtain⟨p,aF,ah,i⟩:=mn 0 xaa;have aa:p=0:=r7 (by rw[aF,Nat.zero_mul,kK]);subst aa;rw[show((0:Nat):Int)=0 from rfl]at i;have B:FloatKind.f64.format.order (W false 0) 0=some .eq:=jX;have U:=qe;have bw:=qA 9218868437227405312 xaa;rw[show W false 9218868437227405312=9218868437227405312 from rfl]at bw;clear aF ah;cases s
 ·have h:(b:Int)<9223372036854775808:=ae;have bY:decide (9223372036854775808<=(b:Int))=false:=yax xaa;exact xjt
 have h:9223372036854775808<=(b:Int):=ae;have bY:decide (9223372036854775808<=(b:Int))=true:=decide_eq_true xaa;exact xjt
theorem wY(b t:Nat)(w)(ao:(b:Int)/4503599627370496%2048=2047)(ht:(b:Int)%4503599627370496=(t:Int))(g:t<4503599627370496)(f:0<t)(hb:b<18446744073709551616):
  Calls prog 109 #[.int .u64 (b:Int)] w λe J=>∃y,e=.returned (.float .f64 y)/\fb y=9221120237041090560/\y<18446744073709551616/\∃m,J=w.drewN m:=by
 obtain⟨p,aF,ah,i⟩:=mn t g
 have aa:0<p:=by
  rcases Nat.eq_zero_or_pos p with h|h
  ·rw[h,kK]at aF;have:=Nat.mul_pos f (Eu 1022);omega
  exact h
 have B:(FloatKind.f64.format.order (W false p) 0 !=some .eq)=true:=by
  rw[show FloatKind.f64.format.order (W false p) 0=_ from mR aa xaa];rfl
 have U:(binOp .quo 38 (.float .f64 0) (.float .f64 0)).run prog w=_:=kL w 38 0 0;clear aF ah g f aa;go_enter func109,ntmps109;go_wp2;go_ret;refine⟨_,rfl,?_,iB _ _ _ _,_,rfl⟩;rw[ie];decide
theorem AA(s r):W s r=if s then r+9223372036854775808 else r:=by unfold W;rw[Nat.add_comm]
theorem OT(h:r<9223372036854775808):((W s r:Nat):Int)/4503599627370496%2048=((r/4503599627370496:Nat):Int):=by
 rw[AA];split<;>omega
theorem OU(_h:r<9223372036854775808):((W s r:Nat):Int)%4503599627370496=((r%4503599627370496:Nat):Int):=by
 rw[AA];split<;>omega
theorem OV(h:r<9223372036854775808):if s then 9223372036854775808<=((W s r:Nat):Int)else ((W s r:Nat):Int)<9223372036854775808:=by
 rw[AA];cases s
 ·simp only[Bool.false_eq_true,if_false];omega
 simp only[if_true];omega
theorem MJ(h:1023<r/4503599627370496):up (r%4503599627370496+4607182418800017408) (r/4503599627370496-1023)=r:=by
 unfold up;omega
theorem MK(h:1<=r/4503599627370496)(h':r/4503599627370496<=1023):dn (r%4503599627370496+4607182418800017408) (1023-r/4503599627370496)=r:=by
 unfold dn;omega
theorem o6{w f args}(av:r<9223372036854775808)(h:Calls prog f args w λe J=>qB s r w e J):
  Calls prog f args w λe J=>∃y,e=.returned (.float .f64 y)/\fb y=fb (W s r)/\y<18446744073709551616/\∃m,J=w.drewN m:=
 h.mono λ_ _ k=>⟨W s r,k.1,rfl,Ev av,0,k.2⟩
theorem yG(b:Nat)(w)(hb:b<18446744073709551616):
  Calls prog 109 #[.int .u64 (b:Int)] w λe J=>∃y,e=.returned (.float .f64 y)/\fb y=fb b/\y<18446744073709551616/\∃m,J=w.drewN m:=by
 obtain⟨s,r,av,rfl⟩:=jB b hb;have ao:=OT (s:=s) av;have ht:=OU (s:=s) av;have ae:=OV (s:=s) av;have g:r%4503599627370496<4503599627370496:=Nat.mod_lt _ xaa;rcases Nat.lt_or_ge 1023 (r/4503599627370496) with B|B
 ·rcases Nat.lt_or_ge 2046 (r/4503599627370496) with U|U
  ·have u:r/4503599627370496=2047:=xaa;rw[u]at ao;rcases Nat.eq_zero_or_pos (r%4503599627370496) with h3|h3
   ·rw[h3]at ht;have I:r=9218868437227405312:=xaa;have:=o6 xaa (wX s _ w ao ht ae hb);rw[<-I]at this;exact this
   rw[nu xaa av];exact wY _ _ w ao ht g h3 hb
  have:=wU s _ _ _ w ao ht ae hb B U g;rw[MJ B]at this;exact o6 av this
 rcases Nat.eq_zero_or_pos (r/4503599627370496) with U|U
 ·rw[U]at ao;have I:r%4503599627370496=r:=xaa;have:=wW s _ _ w ao ht ae hb g;rw[I]at this;exact o6 av this
 have:=wV s _ _ _ w ao ht ae hb U B g;rw[MK U B]at this;exact o6 av this
end
section
attribute[local go_sem] eF eE
theorem s7(b w):(Op.unary .neg (.float .f64 b)).run prog w=.ok (.float .f64 (Op.negFloat .f64 b)) w:=rfl
theorem AB{b}(h:b<18446744073709551616):Op.negFloat .f64 b<18446744073709551616:=by
 obtain⟨s,r,av,rfl⟩:=jB b h;rw[Bm s av];exact Ev av
theorem qC(n):floatOfInt .f64 n<18446744073709551616:=by
 have:=floatOfInt_wf .f64 n;simpa[Lit.wf] using this
theorem rO(n):IntKind.u64.wrap n<18446744073709551616:=by rw[IntKind.wrap_u64];omega
theorem ML(a b)(B:0<=a)(U:a<18446744073709551616)(h3:0<=b)(a6:b<18446744073709551616):∃n:Nat,bits .or .u64 a b=(n:Int)/\n<18446744073709551616:=by
 refine⟨_,u64_or a b B U h3 a6,?_⟩;have:a.toNat|||b.toNat<2 ^ 64:=Nat.or_lt_two_pow xaa xaa
 simpa using this
theorem Ju(x):x%16<6\/(6<=x%16/\x%16<9)\/x%16=9\/x%16=10\/x%16=11\/x%16=12\/x%16=13\/x%16=14\/x%16=15:=xaa
theorem sh{S}(w W':World)(xs T)(k:Chg S (w.alloc (.cells xs T)) W')(aU:¬S w.heap.size):(∀o,W'.cell? ⟨w.heap.size,o,none⟩=xs[o]?)/\(∀o,W'.frozen? ⟨w.heap.size,o,none⟩=false)/\w.heap.size<W'.heap.size:=by
 have B:w.heap.size<(w.alloc (.cells xs T)).heap.size:=by simp
 refine⟨λo=>?_,λo=>?_,yaj B k.size⟩
 ·rw[k.cell B aU,yau]
 rw[k.frozen B aU];simp[World.frozen?,World.alloc,-World.alloc_eq]
theorem BC(w a n m cap xs)(h:YS w a n xs)(aw:m<=n)(aI:m<=500)(ap:(xs.take 500).length=m)(T):
  RdF (w.alloc (.cells #[.slice a m cap,hF 0] T)) w.heap.size a m cap 0 (xs.take 500):=by
 have hb:=sh (S:=λ_=>False) w _ #[.slice a m cap,hF 0] T (hN).chg (λc=>c);refine⟨hb.2.2,hb.1 0,hb.1 1,hb.2.1 1,Nat.zero_le _,aI,⟨ap,λx q=>h.lt x (List.mem_of_mem_take q),?_⟩,?_⟩
 ·rcases h.at_ with q|⟨g,off,e,h3,a6⟩
  ·exact .inl xaa
  refine .inr ⟨g,off,e,yaj h3 (ez 0 0 w _).size,λk O=>?_⟩;rw[(ez 0 0 w _).cell (p:=⟨g,off+k,none⟩) h3 xaa,a6 k xaa];rw[yah,yah,List.getElem?_take,hI xaa]
 intro ai g off e;rcases h.at_ with q|⟨aA,H,C,h3,a6⟩
 ·omega
 rw[e]at C;injection C with C;injection C with af;omega
theorem MN(w a n cap xs)(h:YS w a n xs)(ak:n<=cap):
  Calls prog 13 #[.slice a n cap] w λe J=>e=.returned (hD w.heap.size)/\(∃m,RdF J w.heap.size a m cap 0 (xs.take 500))/\Kept 0 0 w J:=by
 have ah:=h.len;by_cases hn:n<=500
 ·have H:V _:=BC w a n n cap xs h yad hn (by rw[List.length_take];omega) 61;have HK:V _:=ez 0 0 w (.cells #[.slice a n cap,hF 0] 61);clear h;go_enter func13,ntmps13;go_wp2;go_ret;exact⟨rfl,⟨n,H.o⟩,HK.o⟩
 obtain⟨x,rfl⟩:∃x,a=some x:=by
  rcases h.at_ with q|⟨g,off,e,_⟩
  ·omega
  exact⟨_,e⟩
 have H:V _:=BC w (some x) n 500 cap xs h xaa yad (by rw[List.length_take];omega) 61;have HK:V _:=ez 0 0 w (.cells #[.slice (some x) 500 cap,hF 0] 61);have ab:500<=cap:=xaa;have hn:500<n:=xaa;clear h;go_enter func13,ntmps13;go_wp2;go_ret;exact⟨rfl,⟨500,H.o⟩,HK.o⟩
end
section
def l3n(x:Nat):List UInt8:=if x%10<6 then gY (x/10%6)else if x%10=6 then gY x++[46,53]else if x%10=7 then[48,46]++gY x else if x%10=8 then[49]else ([48,48]++gY x)++[46,50,53,48,48]
theorem AC(w P a n cap i bs)(f:RdF w P a n cap i bs):
  Calls prog 145 #[hD P] w λe J=>e=.returned (eO (l3n (nv bs i)))/\RdF J P a n cap (ni bs i) bs/\Kept P (P+1) w J/\J.heap.size=w.heap.size:=by
 have bw:V _:=jg w P a n _ i _ f;have ap:=fU f.ys i;generalize nv _ i=x at bw ap⊢;have HD:V _:=yC x x yad xaa;have g:V (∀W:World,Calls _ _ #[.int _ (x/10%6)] W _):=yC _ (x/10%6) yad xaa;have HL:V ((gY x).length<=300):=by have:=jR x;show _<=_;omega
 clear f;unfold l3n;rcases (by omega:x%10<6\/x%10=6\/x%10=7\/x%10=8\/x%10=9) with c|c|c|c|c
 ·rw[hI c];have c1:(x:Int)%10<6:=xaa;unfold eO at g⊢;go_enter func145,ntmps145;go_wp2_with (first|(go_at_call 32;refine yai bw.o ?_;rintro e aG ⟨rfl,av,am,aS⟩)|(go_at_call 63;refine yai (g.o _) ?_;rintro e ag ⟨rfl,rfl⟩));go_ret;exact⟨rfl,av,am,aS⟩
 ·rw[hG xaa,hI c];have c1:(x:Int)%10=6:=xaa;unfold eO at HD⊢;rw[<-sZ]
  have bz:¬(9223372036854775807<(⟨(gY x).toArray⟩:ByteArray).size+(⟨#[46,53]⟩:ByteArray).size):=by
   rw[gu];have:=HL.o;simp[ByteArray.size];omega
  exact xeu
 ·rw[hG xaa,hG xaa,hI c];have c1:(x:Int)%10=7:=xaa;unfold eO at HD⊢;rw[<-sZ]
  have bz:¬(9223372036854775807<(⟨#[48,46]⟩:ByteArray).size+(⟨(gY x).toArray⟩:ByteArray).size):=by
   rw[gu];have:=HL.o;simp[ByteArray.size];omega
  exact xeu
 ·rw[hG xaa,hG xaa,hG xaa,hI c];have c1:(x:Int)%10=8:=xaa;go_enter func145,ntmps145;go_wp2_with (go_at_call 32;refine yai bw.o ?_;rintro e aG ⟨rfl,av,am,aS⟩);go_ret;exact⟨rfl,av,am,aS⟩
 rw[hG xaa,hG xaa,hG xaa,hG xaa];have c1:(x:Int)%10=9:=xaa;unfold eO at HD⊢;rw[<-sZ,<-sZ]
 have bz:¬(9223372036854775807<(⟨#[48,48]⟩:ByteArray).size+(⟨(gY x).toArray⟩:ByteArray).size):=by
  rw[gu];have:=HL.o;simp[ByteArray.size];omega
 have br:¬(9223372036854775807<((⟨#[48,48]⟩:ByteArray)++(⟨(gY x).toArray⟩:ByteArray)).size+(⟨#[46,50,53,48,48]⟩:ByteArray).size):=by
  rw[yaq,gu];have:=HL.o;simp[ByteArray.size];omega
 generalize (⟨_⟩:ByteArray)=h at HD bz br⊢;exact xdf
end
section
attribute[local go_sem] eF eE eD
variable{w W':World}{bA:Array Oper}{lo p hi off I j g i:Nat}{rest:List Oper}{s x:List UInt8}{o:Oper}{v:Value}{aa:List (List UInt8)}{a:Act}{ts:List Tok}{b:Option Addr}{Q:Exit->Act->World->Prop}
theorem mJ{P}(w)(H:o.guard=none)(s x t)
  (ax:o.op=.call {callee:=.builtin .append,args:=#[s,x],argTypes:=#[t,t]})
  (base) (e) (i) (z) (size n) (ht:P.underlying t=some (.slice e)) (hi:P.info? e=some i) (bz:i.zero=some z)
  (C:i.size=size) (y:i.bytes=n) (F:z.cells.size=size) (b4:0<size) (ae:a.eval s=.slice none 0 0)
  (b) (m c) (f) (ap:a.eval x=.slice b m c) (ah:f.length=m*size) (q:(b=none/\m=0)\/∃aM,b=some aM/\∀j u,f[j]? =some u->w.cell? (aM.add j)=some u) (B:∀u∈f,u.oneCell'=true)
  (l:m<=maxLen) (G:m*n<=140737488355328) (af:base<=w.heap.size)
  (h:∀v' J,J.ownsRow base e size v' m f->w.grownBy J none->wpList P bA Q rest (a.put o.dst v') J):wpList P bA Q (o::rest) a w:=by
 rcases q with⟨rfl,rfl⟩|⟨aM,rfl,hn⟩
 ·have r:=List.length_eq_zero_iff.1 (hT ah);subst r
  have av:(Builtin.append_ #[t,t] o.type #[.slice none 0 0,.slice none 0 c]).run P w=.ok (.slice none 0 0) w:=by
   simp[Builtin.append_,run_underlying ht,sizeOf,typeInfo,hi,Builtin.lenOf,run_firstCells_none]
  refine wpList_plain H λ_ ar=>?_;unfold Oper.wp execOp;simp only[ax,resolve,invoke,builtin,Sem.run_bind,Sem.run_pure,Result.andThen_ok,List.map_toArray,List.map_cons,List.map_nil,ae,ap,av];exact ar _ _ (h _ _ (yav w _ e _) ⟨rfl,rfl,rfl,yad,λ_ _ _=>rfl⟩)
 refine wpList_append_own w H s x t ax _ e i z _ _ ht hi bz C y F b4 _ 0 _ ae (yav w _ e _) _ m c _ ap ah hn B xaa (by grind) af ?_;intro v' J aK aP _;rw[Nat.zero_add,List.nil_append]at aK;exact h _ _ aK aP
theorem j9(g off j):(⟨g,off,none⟩:Addr).add j=⟨g,off+j,none⟩:=by
 simp[Addr.add_lit]
theorem PM{n xs}(h:IS w lo hi b n xs):(b=none/\n=0)\/∃aM,b=some aM/\∀j u,(xs.map (Value.int .i64))[j]? =some u->w.cell? (aM.add j)=some u:=by
 have ah:=h.len;rcases h.at_ with z|⟨g,off,rfl,_,_,_,ak⟩
 ·subst z;have:=List.length_eq_zero_iff.1 ah;subst this;cases b<;>grind
 refine .inr ⟨_,rfl,λj u aI=>?_⟩;have hj:j<n:=by grind
 rw[j9,ak j hj];simp_all
theorem PN{n vs}(h:VS w lo hi b n vs):(b=none/\n=0)\/∃aM,b=some aM/\∀j u,(fW vs)[j]? =some u->w.cell? (aM.add j)=some u:=by
 have ah:=h.len;rcases h.at_ with z|⟨g,off,rfl,_,_,_,ak⟩
 ·subst z;have:=List.length_eq_zero_iff.1 ah;subst this;cases b<;>grind[fW]
 refine .inr ⟨_,rfl,λj u aI=>?_⟩;have hj:j<n*6:=by grind[qm]
 have B:j=j/6*6+j%6:=xaa;have O:j/6<n:=xaa;rw[B,sb _ _ _ xaa xaa]at aI;rw[j9];obtain⟨c0,c1,c2,c3,c4,c5⟩:=ak _ O;grind[Vl.cells]
theorem oh(w lo hi' b n c xs)(b5:n<=1000000)(h:IS w lo hi' b n xs):
  Calls prog 68 #[.slice b n c] w λe J=>∃a cap,e=.returned (.slice a n cap)/\J.ownsRow w.heap.size 3 1 (.slice a n cap) n (xs.map (Value.int .i64))/\Kept 0 0 w J:=by
 obtain⟨bC,hi,bn,bQ,br⟩:=info_parts qk;have bw:V _:=PM h;have bu:V _:=h.len;clear h;go_enter func68,ntmps68;go_wp2_with (first|(at_builtin;refine mJ _ rfl _ _ _ rfl w.heap.size 3 _ _ 1 8 underlying23 hi bn bQ br rfl xab rfl b n c _ rfl ?c0 bw.o ?c2 ?c3 ?c4 ?c5 ?_))
 case c0=>rw[List.length_map,bu.o,Nat.mul_one]
 case c2=>intro u aI;obtain⟨x,_,rfl⟩:=List.mem_map.1 aI;rfl
 case c3=>unfold maxLen;omega
 case c4=>omega
 case c5=>omega
 intro v' be bv a6;obtain⟨a,cap,rfl⟩:=jd bv;have R:V _:=mF a6 (λk O=>by cases O) (Kept.refl 0 0 w) yad;have R2:V _:=bv;clear bv a6;go_wp2;go_ret;exact⟨a,_,rfl,R2.o,R.o⟩
theorem Fx{t k}(O:k<j-i):bt (kY t i j) k=bt t (i+k):=by
 simp_all[bt,kY]
def il(t:List UInt8):List Int:=t.map λb=>(b.toNat:Int)
theorem rl(t k)(h:k<t.length):(il t).getD k 0=bt t k:=by
 simp_all[il,bt]
theorem Fy(t):strOfNums (il t)=⟨t.toArray⟩:=by
 simp_all[strOfNums,il,List.map_congr_left]
theorem kH{n t}(f:TxS w g off n t)(c):(convert 22 9 (.slice (some ⟨g,off,none⟩) n c)).run prog w=.ok (eO t) w:=by
 have hb:prog.underlying 5=some (.int .u8):=by kernel_rfl
 have ae:prog.underlying 9=some .string:=by kernel_rfl
 have h:=run_convert_bytes_arg w 22 5 underlying22 hb g _ n c (il t) (by unfold il;rw[List.length_map];exact f.len) (λk O=>by rw[rl t k (hR f.len O)];exact f.at_ k O) 9 ae;rw[Fy]at h;exact h
theorem TxS.cut{n t}(f:TxS w g off n t)(hj:j<=n):TxS w g (off+i) (j-i) (kY t i j):=
 ⟨yu (hR f.len hj),f.lt,λk O=>by
  rw[Fx O,Nat.add_assoc]
  exact f.at_ _ xaa⟩
def om:Array Value:=(keysL.map λl=>eO l).toArray
theorem Fz(w):Calls prog 134 #[] w λe J=>e=.returned (hE w.heap.size 15 15)/\w.alloc (.cells om 9)=J:=by
 go_enter func134,ntmps134;go_wp2;go_ret;exact⟨rfl,rfl⟩
def i7(k:Tok):Value:=.agg #[eO k.sym,.int .i64 (k.pos:Int),eO k.text]
def NxO(w:World)(k:Tok)(j:Nat)(e:Ending)(w':World):Prop:=e=.returned (.tuple #[i7 k,.int .i64 (j:Int)])/\Kept 0 0 w w'
structure TB(W:World)(p:Nat)(s:List UInt8)(k:Nat)(x:List UInt8):Prop where
 lt:p<W.heap.size
 c0:W.cell? ⟨p,0,none⟩=some (eO s)
 c1:W.cell? ⟨p,1,none⟩=some (.int .i64 (k:Int))
 c2:W.cell? ⟨p,2,none⟩=some (eO x)
 fr:∀o,W.frozen? ⟨p,o,none⟩=false
theorem TB.keep{W k}(h:TB W p s k x)(q:Kept 0 0 W W'):TB W' p s k x:=
 ⟨yaj h.lt q.size,(q.cell (p:=⟨p,0,none⟩) h.lt xaa).trans h.c0,(q.cell (p:=⟨p,1,none⟩) h.lt xaa).trans h.c1,(q.cell (p:=⟨p,2,none⟩) h.lt xaa).trans h.c2,λo=>(q.frozen (p:=⟨p,o,none⟩) h.lt xaa).trans (h.fr o)⟩
theorem TB.sym{W k}(h:TB W p s k x)(z):TB (W.setCell ⟨p,0,none⟩ (eO z)) p z k x:=
 ⟨by simpa using h.lt,fR _ _ _ _ _ h.c0,(eN _ _ _ _ _ _ (.inr xaa)).trans h.c1,(eN _ _ _ _ _ _ (.inr xaa)).trans h.c2,λo=>by simp[h.fr o]⟩
theorem TB.text{W k}(h:TB W p s k x)(z):TB (W.setCell ⟨p,2,none⟩ (eO z)) p s k z:=
 ⟨by simpa using h.lt,(eN _ _ _ _ _ _ (.inr xaa)).trans h.c0,(eN _ _ _ _ _ _ (.inr xaa)).trans h.c1,fR _ _ _ _ _ h.c2,λo=>by simp[h.fr o]⟩
theorem TB.posn{W k}(h:TB W p s k x)(z:Nat):TB (W.setCell ⟨p,1,none⟩ (hF z)) p s z x:=
 ⟨by simpa using h.lt,(eN _ _ _ _ _ _ (.inr xaa)).trans h.c0,fR _ _ _ _ _ h.c1,(eN _ _ _ _ _ _ (.inr xaa)).trans h.c2,λo=>by simp[h.fr o]⟩
theorem TB.other{W q o k}(h:TB W p s k x)(ao:q≠p):TB (W.setCell ⟨q,o,none⟩ v) p s k x:=
 ⟨by simpa using h.lt,(eN _ _ _ _ _ _ (.inl ao)).trans h.c0,(eN _ _ _ _ _ _ (.inl ao)).trans h.c1,(eN _ _ _ _ _ _ (.inl ao)).trans h.c2,λo=>by simp[h.fr o]⟩
theorem im(w:World)(s)(k:Nat)(x):TB (w.alloc (.cells #[eO s,hF k,eO x] 89)) w.heap.size s k x:=
 ⟨by simp,by rw[yau];rfl,by rw[yau];rfl,by rw[yau];rfl,λo=>World.frozen?_alloc_at _ _ w.heap.size o rfl⟩
theorem oq{W}(k:Kept 0 0 w W){o}(h:w.heap.size<=p):Kept 0 0 w (W.setCell ⟨p,o,none⟩ v):=
 Chg.kept (S:=λi=>i=p) k ((eU (lo:=p) (hi:=p+1) W ⟨p,o,none⟩ v yac).chg1 rfl) (λi hi=>by omega)
structure NI(w W:World)(s:List UInt8)(k:Nat)(x:List UInt8):Prop where
 r:TB W w.heap.size [] 0 []
 t:TB W (w.heap.size+1) s k x
 k:Kept 0 0 w W
theorem NI.keep{W k}(h:NI w W s k x)(q:Kept 0 0 W W'):NI w W' s k x:=⟨h.r.keep q,h.t.keep q,h.k.trans q⟩
theorem NI.sym{W k}(h:NI w W s k x)(z):NI w (W.setCell ⟨w.heap.size+1,0,none⟩ (eO z)) z k x:=⟨h.r.other xaa,h.t.sym z,oq h.k xaa⟩
theorem NI.text{W k}(h:NI w W s k x)(z):NI w (W.setCell ⟨w.heap.size+1,2,none⟩ (eO z)) s k z:=⟨h.r.other xaa,h.t.text z,oq h.k xaa⟩
theorem AD(w)(i:Nat):NI w ((w.alloc (.cells #[eO [],hF (0:Nat),eO []] 89)).alloc (.cells #[eO [],hF i,eO []] 89)) [] i []:=by
 refine⟨(im w _ 0 _).keep (ez 0 0 _ _),?_,(ez 0 0 w _).trans (ez 0 0 _ _)⟩;have h:=im (w.alloc (.cells #[eO [],hF (0:Nat),eO []] 89)) [] i [];simp_all
theorem NI.fin{W k}(h:NI w W s k x):TB (((W.setCell ⟨w.heap.size,0,none⟩ (eO s)).setCell ⟨w.heap.size,1,none⟩ (hF k)).setCell ⟨w.heap.size,2,none⟩ (eO x)) w.heap.size s k x/\Kept 0 0 w (((W.setCell ⟨w.heap.size,0,none⟩ (eO s)).setCell ⟨w.heap.size,1,none⟩ (hF k)).setCell ⟨w.heap.size,2,none⟩ (eO x)):=
 ⟨((h.r.sym s).posn k).text x,oq (oq (oq h.k yad) yad) yad⟩
def rP(s:List UInt8)(k:Nat):List UInt8:=if s∈keysL.take k then s else gU
theorem FA(W aG:World)(k)(O:k<15)(h:Kept 0 0 (aG.alloc (.cells om 9)) W):W.cell? ⟨aG.heap.size,k,none⟩=some (eO (keysL.getD k [])):=by
 rw[h.cell xac xaa,yau];have ah:k<keysL.length:=O;show om[k]? =_;unfold om;simp_all
theorem CU{k}(O:k<15)(h:keysL.getD k []=s):rP s (k+1)=s:=by
 unfold rP;rw[hI];have ah:k<keysL.length:=O;exact xku
theorem AE{k}(O:k<15)(h:keysL.getD k []≠s):rP s (k+1)=rP s k:=by
 unfold rP;have ah:k<keysL.length:=O;exact xha
theorem FC{t}(B:j<t.length):gW qu t j=if nR (bt t j)=true\/dig (bt t j)=true then gW qu t (j+1)else j:=by
 grind[wM,qu,oX]
structure KI(w W:World)(B:Nat)(x:List UInt8)(i k:Nat):Prop where
 n:NI w W (rP x k) i x
 lt:B<W.heap.size
 ne:w.heap.size+1<B
 c:∀q,q<15->W.cell? ⟨B,q,none⟩=some (eO (keysL.getD q []))
theorem FD{W}(h:NI w W gU i x):KI w (W.alloc (.cells om 9)) W.heap.size x i 0:=
 ⟨h.keep (ez 0 0 W _),by simp,h.t.lt,λq ao=>FA _ W q ao hN⟩
theorem KI.keep{W k}(h:KI w W I x i k)(q:Kept 0 0 W W'):KI w W' I x i k:=
 ⟨h.n.keep q,yaj h.lt q.size,h.ne,λj hj=>(q.cell (p:=⟨I,j,none⟩) h.lt xaa).trans (h.c j hj)⟩
theorem KI.hit{W k}(h:KI w W I x i k)(O:k<15)(e:keysL.getD k []=x):KI w (W.setCell ⟨w.heap.size+1,0,none⟩ (eO x)) I x i (k+1):=by
 refine⟨?_,by simpa using h.lt,h.ne,λj hj=>(eN _ _ _ _ _ _ (.inl (hO h.ne))).trans (h.c j hj)⟩;rw[CU O e];exact h.n.sym x
theorem KI.miss{W k}(h:KI w W I x i k)(O:k<15)(e:keysL.getD k []≠x):KI w W I x i (k+1):=by
 refine⟨?_,h.lt,h.ne,h.c⟩;rw[AE O e];exact h.n
theorem bW.qce(h:Zp:=by
 go_wp2_with (go_at_call 133;refine yai (cw.o _) ?_;rintro e aG ⟨rfl,rfl⟩);clear c0;rename World=>W0
 go_loopw [7] (λaM W=>W=W0/\∃j:Nat,j<=n/\aM=hF j/\V (gW qu t j=E)) (λaM _=>n-(intOf aM).toNat)
 case atStart=>grind
 case round=>
  obtain⟨rfl,j,hj,rfl,aj⟩:=hrel;by_cases ef:j=E
  ·subst ef;by_cases aB:j<n
   ·have c1:=(aL.o _ bw.o.k).at_ j aB;have bp:V _:=aj.o;rw[FC (hR b0.o aB)]at bp;have HD:V _:=lu (bt t j) wr;have F:V _:=oe (bt t j) wr
    have au:¬(nR _=true\/dig _=true):=λh=>by
     have B:=bp.o
     rw[hI h]at B
     have:=nC qu t (j+1)
     omega
    have am:nR (bt t j)=false:=by grind
    have y:dig (bt t j)=false:=by grind
    rw[am]at F;rw[y]at HD;clear au am y bp;generalize bt t j=x at c1 HD F
    go_upto_region 6 with (first
     |(go_at_call 133;refine yai F.o ?_;rintro e aG ⟨rfl,X⟩;obtain rfl:=X.symm)
     |(go_at_call 101;refine yai HD.o ?_;rintro e aG ⟨rfl,X⟩;obtain rfl:=X.symm))
    clear c1 HD F;have bg:V _:=kH ((aL.o _ bw.o.k).cut (i:=i) aH.o.1) (cap-i);have aw:=aH.o.2;have bR:(0:Int)<=i:=xaa;have aS:(i:Int)<=j:=xaa;have bb:(j:Int)<=cap:=xaa;have af:((j:Int)-i).toNat=j-i:=xaa;have aV:=bw.o.t.c2;have bY:=bw.o.t.fr 2;have ak:=bg.o;go_upto_region 7 with fail;change Code.wp _ _ _ _ (wr.setCell _ (eO _));have l:V _:=bw.o.text (kY t i j);clear bg ak aV bY aw bR aS bb af;generalize wr.setCell _ _=ay at l⊢;generalize ap:kY t i j=x at l⊢;have bu:V _:=ap;clear ap;have aV:=l.o.t.c0;have bY:=l.o.t.fr 0;go_upto_region 8 with fail;change Code.wp _ _ _ _ (ay.setCell _ (eO gU));have S:V _:=l.o.sym gU;clear aV bY l;generalize ay.setCell _ _=W2 at S⊢;go_upto_region 9 with (go_at_call 134;refine yai (Fz _) ?_;rintro e aF ⟨rfl,rfl⟩);have bX:V _:=FD S.o;generalize W2.alloc _=aF at bX⊢;generalize W2.heap.size=I at bX⊢;clear S;go_wp2_with fail;go_loopw [9] (λaM W=>∃k:Nat,k<=15/\aM=hF k/\V (KI w W I x i k)) (λaM _=>15-(intOf aM).toNat)
    case atStart=>exact⟨0,by omega,rfl,bX⟩
    case round=>
     exact xay
   go_upto_region 6 with fail;have bg:V _:=kH ((aL.o _ bw.o.k).cut (i:=i) aH.o.1) (cap-i);have aw:=aH.o.2;have bR:(0:Int)<=i:=xaa;have aS:(i:Int)<=j:=xaa;have bb:(j:Int)<=cap:=xaa;have af:((j:Int)-i).toNat=j-i:=xaa;have aV:=bw.o.t.c2;have bY:=bw.o.t.fr 2;have ak:=bg.o;go_upto_region 7 with fail;change Code.wp _ _ _ _ (wr.setCell _ (eO _));have l:V _:=bw.o.text (kY t i j);clear bg ak aV bY aw bR aS bb af;generalize wr.setCell _ _=ay at l⊢;generalize ap:kY t i j=x at l⊢;have bu:V _:=ap;clear ap;have aV:=l.o.t.c0;have bY:=l.o.t.fr 0;go_upto_region 8 with fail;change Code.wp _ _ _ _ (ay.setCell _ (eO gU));have S:V _:=l.o.sym gU;clear aV bY l;generalize ay.setCell _ _=W2 at S⊢;go_upto_region 9 with (go_at_call 134;refine yai (Fz _) ?_;rintro e aF ⟨rfl,rfl⟩);have bX:V _:=FD S.o;generalize W2.alloc _=aF at bX⊢;generalize W2.heap.size=I at bX⊢;clear S;go_wp2_with fail;go_loopw [9] (λaM W=>∃k:Nat,k<=15/\aM=hF k/\V (KI w W I x i k)) (λaM _=>15-(intOf aM).toNat)
   case atStart=>grind
   case round=>
    exact xay
  have aB:j<n:=by
   rcases Nat.lt_or_ge j n with c|c
   ·exact c
   exact absurd ((oX (λh=>hO b0.o)).symm.trans aj.o) ef
  have c1:=(aL.o _ bw.o.k).at_ j aB;have bp:V _:=aj.o;rw[FC (hR b0.o aB)]at bp;have HD:V _:=lu (bt t j) wr;have F:V _:=oe (bt t j) wr;generalize bt t j=x at c1 HD F bp;cases am:nR x
  ·rw[am]at F bp;cases y:dig x
   ·rw[y]at bp;exact absurd (by simpa using bp.o) ef
   rw[y]at HD bp;have R:V (gW qu t (j+1)=E):=by grind
   go_wp2_with (first
    |(go_at_call 133;refine yai F.o ?_;rintro e aG ⟨rfl,rfl⟩)
    |(go_at_call 101;refine yai HD.o ?_;rintro e aG ⟨rfl,rfl⟩))
   grind[intOf]
  rw[am]at F bp;have R:V (gW qu t (j+1)=E):=by grind
  go_wp2_with (first
   |(go_at_call 133;refine yai F.o ?_;rintro e aG ⟨rfl,rfl⟩))
  grind[intOf]):Zp:=h
open bW in
theorem CV(w g off n cap t)(f:TxS w g off n t)(i)(hi:i<n)(hn:n<=1000000)(ax:n<=cap)(bQ:nR (bt t i)=true):
  Calls prog 99 #[.slice (some ⟨g,off,none⟩) n cap,hF i] w (NxO w (nxT t i) (nxE t i)):=by
 have aL:V (∀W,Kept 0 0 w W->_):=λW k=>f.keep k;have ba:V (nxT t i=⟨_,i,_⟩):=hI bQ;have HE:V (nxE t i=gW _ t i):=hI bQ;have aH:V (gW qu t i<=n/\i<=gW qu t i):=⟨by rw[<-f.len];exact lQ _ _ _ (hT f.len),nC _ _ _⟩
 have b0:V _:=f.len;have aQ:=f.lt;have cw:V (∀W,Calls _ _ _ W λe J=>e=.returned (.bool true)/\J=W):=λW=>by rw[<-bQ];exact oe _ W
 unfold NxO;rw[ba.o,HE.o];obtain⟨E,b3⟩:∃E,E=gW qu t i:=⟨_,rfl⟩
 rw[<-b3]at aH⊢;have HR:V _:=b3.symm;clear b3 ba HE f bQ;exact qcd
theorem yH{t E}(h:gW dig t j=E)(hj:j<t.length)(ad:j=E):dig (bt t j)=false:=by
 subst ad;cases c:dig (bt t j)
 ·rfl
 have:=oY hj c;omega
theorem FE{t E}(h:gW dig t j=E)(ad:j≠E):j<t.length/\dig (bt t j)=true/\gW dig t (j+1)=E:=by
 have B:=h;rw[gW]at B;split at B
 ·rename_i c;exact⟨c.1,c.2,B⟩
 exact absurd B ad
theorem FF(w g off n cap t)(f:TxS w g off n t)(i)(hi:i<n)(hn:n<=1000000)(ax:n<=cap)(bQ:nR (bt t i)=false)(G:dig (bt t i)=true):
  Calls prog 99 #[.slice (some ⟨g,off,none⟩) n cap,hF i] w (NxO w (nxT t i) (nxE t i)):=by
 have aL:V (∀W,Kept 0 0 w W->_):=λW k=>f.keep k;have ba:V (nxT t i=⟨sS t i,i,kY t i (rZ t i)⟩):=by show _=_;unfold nxT;rw[bQ,hG xac,hI G]
 have HE:V (nxE t i=rZ t i):=by show _=_;unfold nxE;rw[bQ,hG xac,hI G]
 have aH:V (gW dig t i<=n/\i<=gW dig t i):=⟨by rw[<-f.len];exact lQ _ _ _ (hT f.len),nC _ _ _⟩
 have b0:V _:=f.len;have aQ:=f.lt;have cw:V (∀W,Calls _ _ _ W λe J=>e=.returned (.bool false)/\J=W):=λW=>by rw[<-bQ];exact oe _ W
 have au:V (∀W,Calls _ _ _ W λe J=>e=.returned (.bool true)/\J=W):=λW=>by rw[<-G];exact lu _ W
 have u:V (rZ t i=if gW _ t i+1<t.length/\bt t _=46/\dig _=true then gW _ t _ else gW _ t i):=rfl;have P:V (sS t i=if gW _ t i+1<t.length/\bt t _=46/\dig _=true then kZ else iE):=rfl;unfold NxO;rw[ba.o,HE.o];obtain⟨E,b3⟩:∃E,E=gW dig t i:=⟨_,rfl⟩
 rw[<-b3]at aH u P;have HR:V _:=b3.symm;clear b3 ba HE f bQ G;generalize rZ t i=N at u⊢;generalize sS t i=Z at P⊢;go_enter func99,ntmps99;go_upto_region 3 with fail;have bw:V _:=AD w i;change Code.wp _ _ _ _ ((w.alloc (.cells #[eO _,.int _ _,eO _] 89)).alloc (.cells #[eO _,hF _,eO _] 89));generalize (w.alloc _).alloc _=W0 at bw⊢;have c0:=(aL.o _ bw.o.k).at_ i hi;generalize bt t i=bI at c0 cw au
 go_upto_region 16 with (first
  |(go_at_call 133;refine yai (cw.o _) ?_;rintro e aG ⟨rfl,X⟩;obtain rfl:=X.symm)
  |(go_at_call 101;refine yai (au.o _) ?_;rintro e aG ⟨rfl,X⟩;obtain rfl:=X.symm))
 have aV:=bw.o.t.c0;have bY:=bw.o.t.fr 0;go_upto_region 17 with fail;change Code.wp _ _ _ _ (W0.setCell _ (eO iE));have S:V _:=bw.o.sym iE;clear aV bY bw c0;generalize W0.setCell _ _=W2 at S⊢;go_loopw [7] (λaM W=>W=W2/\∃j:Nat,j<=n/\aM=hF j/\V (gW dig t j=E)) (λaM _=>n-(intOf aM).toNat)
 case atStart=>exact⟨rfl,i,by omega,rfl,HR⟩
 case round=>
  obtain⟨rfl,j,hj,rfl,aj⟩:=hrel;by_cases ef:j=E
  ·by_cases aB:j<n
   ·have c1:=(aL.o _ S.o.k).at_ j aB;have HD:V _:=lu (bt t j) wr;rw[yH aj.o (hR b0.o aB) ef]at HD;subst ef;generalize ab:bt t j=ad at c1 HD u P;go_upto_region 19 with (go_at_call 101;refine yai HD.o ?_;rintro e aG ⟨rfl,X⟩;obtain rfl:=X.symm);by_cases ci:j+1<n
    ·by_cases q:ad=46
     ·have C:V _:=lu (bt t (j+1)) wr;have c2:=(aL.o _ S.o.k).at_ _ ci;subst q;cases Y:dig (bt t (j+1))
      ·have aY:V (Z=iE/\N=j):=⟨P.o.trans (hG (λh=>by rw[Y]at h;exact absurd h.2.2 xac)),u.o.trans (hG (λh=>by rw[Y]at h;exact absurd h.2.2 xac))⟩
       have m:V (i<=j/\j<=n):=⟨aH.o.2,aH.o.1⟩
       rw[Y]at C;clear HD ab Y u P;generalize bt t _=ah at c2 C;go_upto_region 24 with (go_at_call 101;refine yai C.o ?_;rintro e aG ⟨rfl,X⟩;obtain rfl:=X.symm);clear c1 c2 C;exact xai
      have aT:V (Z=kZ/\N=gW _ t _):=⟨P.o.trans (hI ⟨hR b0.o ci,rfl,Y⟩),u.o.trans (hI ⟨hR b0.o ci,rfl,Y⟩)⟩
      rw[Y]at C;clear HD ab Y u P;generalize bt t _=ah at c2 C;go_upto_region 20 with (go_at_call 101;refine yai C.o ?_;rintro e aG ⟨rfl,X⟩;obtain rfl:=X.symm);clear c1 c2 C;have aV:=S.o.t.c0;have bY:=S.o.t.fr 0;go_upto_region 21 with fail;change Code.wp _ _ _ _ (wr.setCell _ (eO kZ));have K:V _:=S.o.sym kZ;clear aV bY S;generalize wr.setCell _ _=aF at K⊢;have y:V (gW dig t (j+1)<=n/\i<=gW dig t (j+1)):=⟨by rw[<-b0.o];exact lQ _ _ _ (hT b0.o),hQ (nC dig t (j+1)) aH.o.2⟩
      obtain⟨F,bx⟩:∃F,F=gW dig t (j+1):=⟨_,rfl⟩
      rw[<-bx]at aT y;have ag:V _:=bx.symm;clear bx;go_wp2_with fail;go_loopw [7] (λaM W=>W=aF/\∃j:Nat,j<=n/\aM=hF j/\V (gW dig t j=F)) (λaM _=>n-(intOf aM).toNat)
      case atStart=>exact⟨rfl,j+1,by omega,by go_num,ag⟩
      case round=>
       obtain⟨rfl,k,O,rfl,ar⟩:=hrel;by_cases eg:k=F
       ·by_cases aN:k<n
        ·have c3:=(aL.o _ K.o.k).at_ k aN;have z:V _:=lu (bt t k) wr;rw[yH ar.o (hR b0.o aN) eg]at z;subst eg;have aY:V _:=aT.o;have m:V (i<=k/\k<=n):=⟨y.o.2,y.o.1⟩
         generalize bt t k=ae at c3 z;go_upto_region 24 with (go_at_call 101;refine yai z.o ?_;rintro e aG ⟨rfl,X⟩;obtain rfl:=X.symm);clear c3 z;exact xbj
        subst eg;have aY:V _:=aT.o;have m:V (i<=k/\k<=n):=⟨y.o.2,y.o.1⟩
        go_upto_region 24 with fail;exact xbj
       obtain⟨B,U,h3⟩:=FE ar.o eg;have aN:k<n:=by rw[b0.o]at B;exact B
       have c3:=(aL.o _ K.o.k).at_ k aN;have z:V _:=lu (bt t k) wr;rw[U]at z;have R:V _:=h3;clear B U h3;generalize bt t k=ae at c3 z;go_wp2_with (go_at_call 101;refine yai z.o ?_;rintro e aG ⟨rfl,X⟩;obtain rfl:=X.symm);exact xdd
     have aY:V (Z=iE/\N=j):=⟨P.o.trans (hG (λh=>q h.2.1)),u.o.trans (hG (λh=>q h.2.1))⟩
     have m:V (i<=j/\j<=n):=⟨aH.o.2,aH.o.1⟩
     have al:(ad==46)=false:=by simpa using q
     clear HD ab u P q;exact xbh
    have aY:V (Z=iE/\N=j):=⟨P.o.trans (hG (λh=>hO b0.o)),u.o.trans (hG (λh=>hO b0.o))⟩
    have m:V (i<=j/\j<=n):=⟨aH.o.2,aH.o.1⟩
    clear HD ab u P;exact xbh
   subst ef;have aY:V (Z=iE/\N=j):=⟨P.o.trans (hG (λh=>hO b0.o)),u.o.trans (hG (λh=>hO b0.o))⟩
   have m:V (i<=j/\j<=n):=⟨aH.o.2,aH.o.1⟩
   clear u P;go_upto_region 19 with fail;go_upto_region 24 with fail;exact xai
  obtain⟨B,U,h3⟩:=FE aj.o ef;have aB:j<n:=by rw[b0.o]at B;exact B
  have c1:=(aL.o _ S.o.k).at_ j aB;have HD:V _:=lu (bt t j) wr;rw[U]at HD;have R:V _:=h3;clear B U h3;generalize bt t j=ae at c1 HD;go_wp2_with (go_at_call 101;refine yai HD.o ?_;rintro e aG ⟨rfl,X⟩;obtain rfl:=X.symm);exact xiq
def wZ(x:UInt8)(k:Nat):List UInt8:=if x∈onesL.take k then[x] else[]
theorem FG{x k}(O:k<10)(h:onesL.getD k 0=x):wZ x (k+1)=[x]:=by
 unfold wZ;rw[hI];have ah:k<onesL.length:=O;exact xku
theorem CW{x k}(O:k<10)(h:onesL.getD k 0≠x):wZ x (k+1)=wZ x k:=by
 unfold wZ;have ah:k<onesL.length:=O;exact xha
abbrev onesS:ByteArray:={data:=#[43,45,42,47,40,41,44,59,58,61]}
theorem FH:∀k:Fin 10,onesS.extract k.1 (k.1+1)=⟨#[onesL.getD k.1 0]⟩:=by decide+kernel
theorem FI:∀k:Fin 10,∀h,((onesS[k.1]'h).toNat:Int)=bt onesL k.1:=by decide+kernel
theorem Jv(k)(O:k<10)(h):((onesS[k]'h).toNat:Int)=bt onesL k:=FI ⟨k,O⟩ h
theorem bX.qce(h:Zp:=by
 have aF:V _:=λW k=>(aL.o W k).at_ i hi;generalize bt t i=bI at c0 cw au ab aF
 go_upto_region 26 with (first
  |(go_at_call 133;refine yai (cw.o _) ?_;rintro e aG ⟨rfl,X⟩;obtain rfl:=X.symm)
  |(go_at_call 101;refine yai (au.o _) ?_;rintro e aG ⟨rfl,X⟩;obtain rfl:=X.symm))
 clear c0 cw au aL;go_wp2_with fail;go_loopw [11] (λaM W=>∃k:Nat,k<=10/\aM=hF k/\V (NI w W (wZ S k) i (wZ S k))) (λaM _=>10-(intOf aM).toNat)
 case atStart=>exact⟨0,by omega,rfl,bw⟩
 case round=>
  obtain⟨k,O,rfl,bn⟩:=hrel;by_cases l:k<10
  ·have c1:=aF.o _ bn.o.k
   have bV:V (onesL.getD k 0=S↔bt onesL k=bI):=by
    show _↔_;rw[ab.o];unfold bt;constructor
    ·grind
    intro h;exact UInt8.toNat_inj.1 xaa
   have bS:∀h,_:=λh=>Jv k l h;have ap:onesS.extract k (k+1)=⟨#[onesL.getD k 0]⟩:=FH ⟨k,l⟩;generalize bt _ k=y at bV bS;go_upto_region 30 with fail;go_quiet (fail)
   have bU:V _:=bn.o.keep (eL 0 0 _ nq);clear c1 bn;generalize wr.drewN _=b8 at bU⊢;have bd:=bU.o.t.c0;have aR:=bU.o.t.fr 0;have aV:=bU.o.t.c2;have bY:=bU.o.t.fr 2;cases ao:(y==bI)
   ·have aw:onesL.getD k 0≠S:=λc=>by have:=bV.o.1 c;rw[this]at ao;simp at ao
    have R:V _:=bU.o;rw[<-CW l aw]at R;clear bU aw ap bd aR aV bY;go_wp2_with fail;grind[intOf]
   have aw:=bV.o.2 (by simpa using ao);have R:V _:=(bU.o.sym [S]).text [S];rw[aw]at ap;have C:=FG l aw;have ae:V _:=C;have ch:V (eO [S]=.string _):=rfl;generalize wZ _ k=aW at bd aV bU;clear bU aw C;have aS:IntKind.i64.wrap (k+1)=k+1:=by rw[IntKind.wrap_i64];omega
   have bb:(0:Int)<=k:=xaa;have bq:(k:Int)+1<=10:=xaa;go_wp2_with fail;go_roundw;exact⟨k+1,by omega,by go_num,hR ae.o R⟩;simp[intOf];omega
  obtain rfl:k=10:=xaa;have u:V _:=bn.o;rw[show wZ _ _=lr _ from rfl]at u;generalize z:lr _=Y at u;have aU:V _:=z;clear z;obtain⟨_,bo,az,aZ,ai⟩:=u.o.r;obtain⟨_,bf,aO,aX,r⟩:=u.o.t;have bl:=ai 0;have bG:=ai 1;have bP:=ai 2;have R:V _:=u.o.fin;have aS:IntKind.i64.wrap (i+1)=i+1:=by rw[IntKind.wrap_i64];omega
  clear bn ai r u;go_wp2_with fail;change bodyPost _ _ _ _ _ (((wr.setCell _ (eO _)).setCell _ _).setCell _ (eO _));generalize ((wr.setCell _ _).setCell _ _).setCell _ _=cf at R⊢;obtain⟨⟨_,bH,f1,f2,_⟩,H⟩:=R.o;refine yay (v:=.tuple #[.agg #[eO Y,hF i,eO Y],hF ((i:Int)+1)]) (by simp[results,results99,go_sem,bH,f1,f2]) rfl ⟨?_,H⟩;rw[aU.o,Int.natCast_add];rfl):Zp:=h
open bX in
theorem CX(w g off n cap t)(f:TxS w g off n t)(i)(hi:i<n)(hn:n<=1000000)(bQ:nR (bt t i)=false)(G:dig (bt t i)=false):
  Calls prog 99 #[.slice (some ⟨g,off,none⟩) n cap,hF i] w (NxO w (nxT t i) (nxE t i)):=by
 have aL:V (∀W,Kept 0 0 w W->_):=λW k=>f.keep k;have ba:V (nxT t i=⟨lr (t.getD i 0),i,lr (t.getD i 0)⟩):=by show _=_;unfold nxT;simp_all
 have HE:V (nxE t i=i+1):=by show _=_;unfold nxE;simp_all
 have aQ:=f.lt;have cw:V (∀W,Calls _ _ _ W λe J=>e=.returned (.bool false)/\J=W):=λW=>by rw[<-bQ];exact oe _ W
 have au:V (∀W,Calls _ _ _ W λe J=>e=.returned (.bool false)/\J=W):=λW=>by rw[<-G];exact lu _ W
 have ab:V (bt t i=((t.getD i 0).toNat:Int)):=rfl;unfold NxO;rw[ba.o,HE.o];clear ba HE f bQ G;generalize t.getD i 0=S at ab⊢;exact qcd
theorem MO(w g off n cap t)(f:TxS w g off n t)(i)(hi:i<n)(hn:n<=1000000)(ax:n<=cap):
  Calls prog 99 #[.slice (some ⟨g,off,none⟩) n cap,hF i] w (NxO w (nxT t i) (nxE t i)):=by
 cases bQ:nR (bt t i)
 ·cases G:dig (bt t i)
  ·exact CX w g _ n _ t f i hi hn bQ G
  exact FF w g _ n _ t f i hi hn ax bQ G
 exact CV w g _ n _ t f i hi hn ax bQ
def tkc(k:Tok):List Value:=[eO k.sym,.int .i64 (k.pos:Int),eO k.text]
def tkF:List Tok->List Value
 |[]=>[]
 |k::r=>tkc k++tkF r
theorem Jw(a b):tkF (a++b)=tkF a++tkF b:=by
 induction a<;>grind[tkF]
theorem Jx(k):tkF [k]=tkc k:=by simp[tkF]
theorem FJ:∀(a:List Tok) (k j:Nat),k<a.length->j<3->(tkF a)[k*3+j]? =(tkc (a.getD k hL))[j]?
 |x::r,0,j,_,hj=>by
  grind[tkF,tkc]
 |x::r,k+1,j,O,hj=>by
  have ap:(tkc x).length=3:=rfl
  rw[tkF,yar xaa,ap,show(k+1)*3+j-3=k*3+j by omega]
  exact FJ r k j (by grind) hj
def TR(W:World)(B:Nat)(v:Value)(ts:List Tok):Prop:=W.ownsRow B 89 3 v ts.length (tkF ts)
theorem TR.keep{W}(f:TR W I v ts)(k:Kept 0 0 W W'):TR W' I v ts:=eW f k
theorem TR.nil(W I):TR W I (.slice none 0 0) []:=yav _ _ _ _
theorem TR.blk{W}(f:TR W I v ts)(h:v.ownBlock=some g):I<=g/\g<W.heap.size:=eI f h
structure TkA(w:World)(g off n:Nat)(ts:List Tok):Prop where
 len:ts.length=n
 lt:g<w.heap.size
 c0:∀k,k<n->w.cell? ⟨g,off+k*3,none⟩=some (eO (ts.getD k hL).sym)
 c1:∀k,k<n->w.cell? ⟨g,off+k*3+1,none⟩=some (.int .i64 ((ts.getD k hL).pos:Int))
 c2:∀k,k<n->w.cell? ⟨g,off+k*3+2,none⟩=some (eO (ts.getD k hL).text)
theorem TR.at_{W}(f:TR W I v ts)(h:0<ts.length):∃g cap,v=hE g ts.length cap/\I<=g/\TkA W g 0 ts.length ts/\ts.length<=cap:=by
 rcases f.2 with⟨_,c⟩|⟨g,cap,H,rfl,N,aD,ad,_,bE,bY⟩
 ·omega
 have aQ:g<W.heap.size:=by grind
 have au:∀k j,k<ts.length->j<3->W.cell? _=(tkc _)[j]?:=λk j O hj=>by
  rw[cell_of_row W g _ _ _ _ aD,<-Array.getElem?_toList]
  have:(H.toList.take (ts.length*3))[k*3+j]? =(tkF ts)[k*3+j]?:=by rw[bY]
  rw[List.getElem?_take_of_lt xaa]at this
  rw[this]
  exact FJ _ k j O hj
 refine⟨g,_,rfl,N,⟨rfl,aQ,λk O=>?_,λk O=>?_,λk O=>?_⟩,ad⟩
 ·rw[Nat.zero_add];exact au k 0 O xaa
 ·rw[Nat.zero_add];exact au k 1 O xaa
 rw[Nat.zero_add];exact au k 2 O xaa
theorem MP:(prog.info? 89).map (λi=>(i.zero,i.size,i.bytes))=some (some (.agg #[.string ⟨#[]⟩,hF 0,.string ⟨#[]⟩]),3,40):=by kernel_rfl
theorem xd:∃bC,prog.info? 89=some bC/\bC.zero=some (.agg #[.string ⟨#[]⟩,hF 0,.string ⟨#[]⟩])/\bC.size=3/\bC.bytes=40:=by
 have h:=MP;simp_all
theorem yI(w:World)(k T):∀j u,(tkc k)[j]? =some u->(w.alloc (.cells #[eO k.sym,hF k.pos,eO k.text] T)).cell? ((⟨w.heap.size,0,none⟩:Addr).add j)=some u:=by
 intro j u h;rw[j9,Nat.zero_add,yau];match j,h with
 |0,h=>exact h
 |1,h=>exact h
 |2,h=>exact h
theorem ow(w)(H:o.guard=none)(s x)
  (ax:o.op=.call {callee:=.builtin .append,args:=#[s,x],argTypes:=#[85,85]})
  (I) (v) (ts) (ae:a.eval s=v) (aU:TR w I v ts)
  (aM) (k) (ap:a.eval x=.slice (some aM) 1 1) (f:∀j u,(tkc k)[j]? =some u->w.cell? (aM.add j)=some u)
  (l:ts.length+1<=1000000) (af:I<=w.heap.size)
  (h:∀g cap n J,n=(ts++[k]).length->TR J I (hE g n cap) (ts++[k])->Chg (λb=>v.ownBlock=some b) w J->(v.ownBlock=some g\/g=w.heap.size)->wpList prog bA Q rest (a.put o.dst (hE g n cap)) J):wpList prog bA Q (o::rest) a w:=by
 obtain⟨bC,hi,bn,bQ,br⟩:=xd;refine wpList_append_lies w H s x _ ax I 89 _ _ 3 _ underlying85 hi bn bQ br rfl xab v _ _ ae aU _ 1 1 _ ap rfl f ?_ xab (by unfold maxLen;omega) xaa af _ rfl ?_
 ·intro u aI;simp[tkc]at aI;rcases aI with rfl|rfl|rfl<;>rfl
 intro g cap J B U h3 _;have e:ts.length+1=(ts++[k]).length:=by grind
 rw[e]at B⊢;refine h g _ _ _ rfl ?_ (gX U) h3;unfold TR;rw[Jw,Jx];exact B
theorem BD{W}(aT:w.heap.size<=I)(k:Kept 0 0 w W)(f:TR W I v ts)(c:Chg (λb=>v.ownBlock=some b) W W'):Kept 0 0 w W':=
 Chg.kept k c (λ_ hi=>yan aT (f.blk hi).1)
theorem FK(w g off n cap t)(f:TxS w g off n t)(hn:n<=100000)(ax:n<=cap):
  Calls prog 59 #[.slice (some ⟨g,off,none⟩) n cap] w λe J=>∃v,e=.returned v/\TR J w.heap.size v (jE t)/\Kept 0 0 w J:=by
 have aL:V (∀W,Kept 0 0 w W->_):=λW k=>f.keep k;have au:V _:=Fk w g _ n cap t f 0 xaa xaa;have b0:V _:=f.len;have bk:V (skM t 0<=n):=by show _<=_;rw[<-f.len];exact wN t 0 (Nat.zero_le _)
 clear f;obtain⟨A,a2⟩:∃A,A=jE t:=⟨_,rfl⟩
 rw[<-a2];have aY:V ([]++kU t _=A):=a2.symm;clear a2;go_enter func59,ntmps59;go_wp2_with (go_at_call 98;refine yai au.o ?_;rintro e aG ⟨rfl,X⟩;obtain rfl:=X.symm);go_loopw [3,4] (λv aM W=>∃(k:Nat) (l:List Tok),k<=n/\l.length<=k/\aM=hF k/\V (TR W w.heap.size v l)/\V (Kept 0 0 w W)/\V (l++kU t k=A)) (λ_ aM _=>n-(intOf aM).toNat)
 case atStart=>exact⟨_,_,bk.o,Nat.zero_le _,rfl,TR.nil _ _,Kept.refl 0 0 w,aY⟩
 case round=>
  obtain⟨k,l,O,r,rfl,C,ar,bh⟩:=hrel;by_cases aB:k<n
  ·have B:k<t.length:=by rw[b0.o];exact aB
   have bu:V _:=MO _ g _ n _ t (aL.o _ ar.o) k aB xaa ax;have aH:V (k<nxE t k/\nxE t k<=n/\nxE t k<=skM t _/\skM t _<=n):=⟨sT B,by rw[<-b0.o];exact Fi B,pI _ _,by rw[<-b0.o];exact wN t _ (Fi B)⟩
   have m:V ((nxT t k).sym=[]->l++[nxT t k]=A):=λh=>by rw[<-bh.o,CP B h]
   have ap:V ((nxT t k).sym≠[]->(l++[nxT t k])++kU t (skM t (nxE t k))=A):=λh=>by rw[<-bh.o,Fj B h];simp
   unfold NxO i7 at bu;generalize nxT t k=K at bu m ap;have co:V _:=λW al=>Fk W g _ n cap t (aL.o W al) _ aH.o.2.1 xaa;generalize nxE t k=ne at bu aH ap co;generalize skM t _=y at aH ap co;have q:V _:=λag:World=>yI ag K 89;obtain⟨aO,aT,bv⟩:=K;simp only at bu m ap q;clear bh B
   go_wp2_with (first
    |(go_at_call 99;refine yai bu.o ?_;rintro e ag ⟨rfl,an⟩)
    |(at_builtin;refine ow _ rfl _ _ rfl _ _ _ rfl ((C.o.keep an).keep ((ez 0 0 _ _).trans (ez 0 0 _ _))) _ ⟨aO,aT,bv⟩ rfl ?c1 ?c2 ?c3 ?_)
    |fail)
   case c1=>
    have bm:=q.o (ag.alloc (.cells #[eO aO,hF aT,eO bv] 89));rw[show(ag.alloc _).heap.size=ag.heap.size+1 by simp]at bm;exact bm
   case c2=>omega
   case c3=>have:=ar.o.size;have:=an.size;simp;omega
   intro g9 cap9 n9 be bO b1 bV b6;have R1:V _:=b1;have z:=(ar.o.trans an).trans ((ez 0 0 _ (.cells #[eO aO,hF aT,eO bv] 89)).trans (ez 0 0 _ (.cells #[eO aO,hF aT,eO bv] 89)));have R2:V _:=BD yad z ((C.o.keep an).keep ((ez 0 0 _ _).trans (ez 0 0 _ _))) bV
   have u:be.cell? ⟨ag.heap.size,0,none⟩=some (eO aO):=by
    rw[bV.cell yaf (λc=>by have:=(C.o.blk c).2;have:=an.size;simp at*;omega),(ez 0 0 _ _).cell xac xaa,yau];rfl
   clear b1 bV b6 bO z;cases ae:(aO==[])
   ·have ca:aO≠[]:=by intro c;rw[c]at ae;simp at ae
    have R3:V _:=ap.o ca;have bp:V _:=co.o _ R2.o;have b8:(l++[(⟨aO,aT,bv⟩:Tok)]).length=l.length+1:=by simp
    clear ca;go_wp2_with (go_at_call 98;refine yai bp.o ?_;rintro e N ⟨rfl,X⟩;obtain rfl:=X.symm);go_roundw
    case rel=>exact⟨_,_,aH.o.2.2.2,by rw[b8];have:=aH.o;omega,rfl,R1,R2,R3⟩
    case measure=>simp[intOf];have:=aH.o;omega
   have ad:aO=[]:=by simpa using ae
   have R3:V _:=m.o ad;rw[R3.o]at R1;clear ad;go_wp2_with fail;go_ret;exact⟨_,rfl,R1.o,R2.o⟩
  rw[CO (hR b0.o aB),List.append_nil]at bh;obtain rfl:=bh.o;go_wp2_with fail;go_ret;exact⟨_,rfl,C.o,ar.o⟩
def WB(W:World)(B:Nat)(v:Value)(ss:List (List UInt8)):Prop:=W.ownsRow B 9 1 v ss.length (ss.map λl=>eO l)
theorem WB.keep{W}(f:WB W I v aa)(k:Kept 0 0 W W'):WB W' I v aa:=eW f k
theorem WB.blk{W}(f:WB W I v aa)(h:v.ownBlock=some g):I<=g/\g<W.heap.size:=eI f h
theorem Jy:(prog.info? 9).map (λi=>(i.zero,i.size,i.bytes))=some (some (.string ⟨#[]⟩),1,16):=by kernel_rfl
theorem um:∃bC,prog.info? 9=some bC/\bC.zero=some (.string ⟨#[]⟩)/\bC.size=1/\bC.bytes=16:=by
 have h:=Jy;simp_all
def WC(w:World)(a:Addr)(ss:List (List UInt8)):Prop:=∀j x,ss[j]? =some x->w.cell? (a.add j)=some (eO x)
theorem WC.news{a}(h:WC w a aa):∀j u,(aa.map λl=>eO l)[j]? =some u->w.cell? (a.add j)=some u:=by
 intro j u aI;rw[List.getElem?_map]at aI;cases e:aa[j]? with
 |none=>grind
 |some x=>rw[e]at aI;cases aI;exact h j x e
theorem WB.at_{W}(f:WB W I v aa)(h:0<aa.length):∃g cap,v=hE g aa.length cap/\I<=g/\g<W.heap.size/\WC W ⟨g,0,none⟩ aa/\aa.length<=cap:=by
 have ak:=f;rcases f.2 with⟨_,c⟩|⟨g,cap,H,e,N,aD,ad,_,bE,bY⟩
 ·omega
 have aQ:g<W.heap.size:=by grind
 refine⟨g,_,e,N,aQ,λj x ap=>?_,ad⟩;subst e;exact World.ownsRow.cells ak rfl j _ (by grind)
theorem s8(w)(H:o.guard=none)(s x)
  (ax:o.op=.call {callee:=.builtin .append,args:=#[s,x],argTypes:=#[97,97]})
  (I) (v) (aa) (ae:a.eval s=v) (aU:WB w I v aa)
  (aM) (m c) (bc) (ap:a.eval x=.slice (some aM) m c) (ah:bc.length=m) (f:WC w aM bc)
  (aw:0<m) (l:aa.length+m<=1000000) (af:I<=w.heap.size)
  (h:∀g cap n J,n=(aa++bc).length->WB J I (hE g n cap) (aa++bc)->Chg (λb=>v.ownBlock=some b) w J->(v.ownBlock=some g\/g=w.heap.size)->wpList prog bA Q rest (a.put o.dst (hE g n cap)) J):wpList prog bA Q (o::rest) a w:=by
 obtain⟨bC,hi,bn,bQ,br⟩:=um;refine wpList_append_lies w H s x _ ax I 9 _ _ 1 _ underlying97 hi bn bQ br rfl xab v _ _ ae aU _ m c _ ap (by grind) f.news ?_ aw (by unfold maxLen;omega) xaa af _ rfl ?_
 ·intro u aI;obtain⟨x,_,rfl⟩:=List.mem_map.1 aI;rfl
 intro g cap J B U h3 _;have e:aa.length+m=(aa++bc).length:=by grind
 rw[e]at B⊢;refine h g _ _ _ rfl ?_ (gX U) h3;unfold WB;grind
