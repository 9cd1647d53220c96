import Derived.Test.YtbhmhdllnfkjhaaGreatP16
import Derived.Test.YtbhmhdllnfkjhaaGreatP07
import Derived.Test.YtbhmhdllnfkjhaaGreatP08
namespace Go.Proofs.Z
variable{Zp:Prop}
open Tryz Go.RowKit Flt
set_option maxRecDepth 1000000
set_option maxHeartbeats 0
section
variable{w I:World}{a:Option Addr}{P n cap i h:Nat}{bs:List Int}
abbrev eN(l:List UInt8):Value:=.string ⟨l.toArray⟩
theorem tX(a b:List UInt8):(⟨a.toArray⟩:ByteArray)++⟨b.toArray⟩=⟨(a++b).toArray⟩:=by
 apply ByteArray.ext;simp
def gZ(n:Nat):List UInt8:=if n<10 then[UInt8.ofNat (48+n)]else gZ (n/10)++gZ (n%10)
termination_by n
decreasing_by all_goals omega
theorem jO(n):(gZ n).length<=n+1:=by
 rw[gZ];split
 ·simp
 rw[yal];have B:=jO (n/10);have J:(gZ (n%10)).length=1:=by rw[gZ,hG xaa];rfl
 omega
termination_by n
decreasing_by all_goals omega
theorem gi(l:List UInt8):(⟨l.toArray⟩:ByteArray).size=l.length:=by simp[ByteArray.size]
theorem JB:∀k:Fin 10,({data:=#[48,49,50,51,52,53,54,55,56,57]}:ByteArray).extract k.1 (k.1+1)=⟨#[UInt8.ofNat (48+k.1)]⟩:=by decide+kernel
theorem vC(n:Nat)(hn:n<10)(w):Calls prog 71 #[hD n] w λe I=>e=.returned (eN (gZ n))/\I=w:=by
 have G:gZ n=[UInt8.ofNat (48+n)]:=by rw[gZ,hG hn]
 have ak:({data:=#[48,49,50,51,52,53,54,55,56,57]}:ByteArray).extract n (n+1)=⟨(gZ n).toArray⟩:=by rw[G];exact JB ⟨n,hn⟩
 unfold eN;generalize (⟨(gZ n).toArray⟩:ByteArray)=c at ak;have aP:(n:Int)<10:=xaa;have aY:IntKind.i64.wrap ((n:Int)+1)=(n:Int)+1:=by rw[IntKind.wrap_i64];omega
 have bW:0<=(n:Int):=xaa;clear G;go_enter func71,ntmps71;go_wp2;go_ret;exact⟨rfl,rfl⟩
theorem y9:∀(aH n:Nat),n<=aH->n<=1000000->∀w:World,Calls prog 71 #[hD n] w λe I=>e=.returned (eN (gZ n))/\I=w:=by
 intro aH;induction aH with
 |zero=>
  intro n h _ w;exact vC n xaa w
 |succ aH aa=>
  intro n h hb w;by_cases hn:n<10
  ·exact vC n hn w
  have G:gZ n=gZ (n/10)++gZ (n%10):=by rw[gZ,hF hn]
  have H1:V (∀w:World,Calls prog 71 #[hD ((n:Int)/10)] w λe I=>e=.returned (eN (gZ (n/10)))/\I=w):=aa (n/10) xaa xaa;have H2:V (∀w:World,Calls prog 71 #[hD ((n:Int)%10)] w λe I=>e=.returned (eN (gZ (n%10)))/\I=w):=aa (n%10) xaa xaa;have aP:¬((n:Int)<10):=xaa;unfold eN at H1 H2⊢;rw[G,<-tX]
  have bi:¬(9223372036854775807<(⟨(gZ (n/10)).toArray⟩:ByteArray).size+(⟨(gZ (n%10)).toArray⟩:ByteArray).size):=by
   rw[gi,gi];have:=jO (n/10);have:=jO (n%10);omega
  generalize (⟨(gZ (n/10)).toArray⟩:ByteArray)=a at H1 bi;generalize (⟨(gZ (n%10)).toArray⟩:ByteArray)=b at H2 bi;clear aa G;go_enter func71,ntmps71;go_wp2_with fail;refine yaj (H1.o w) ?_;rintro e aO ⟨rfl,rfl⟩;go_wp2_with fail;refine yaj (H2.o aO) ?_;rintro e ag ⟨rfl,rfl⟩;go_wp2_with fail;go_ret;exact⟨rfl,rfl⟩
structure RdF(w:World)(P:Nat)(a:Option Addr)(n cap i:Nat)(bs:List Int):Prop where
 lt:P<w.heap.size
 c0:w.cell? ⟨P,0,none⟩=some (.slice a n cap)
 c1:w.cell? ⟨P,1,none⟩=some (.int .i64 (i:Int))
 fz:w.frozen? ⟨P,1,none⟩=false
 hi:i<=n
 small:n<=500
 ys:YS w a n bs
 ne:0<n->∀g off,a=some ⟨g,off,none⟩->g<P
theorem F0{xs}(f:YS w a n xs)(k:Kept P h w I)(ne:0<n->∀g off,a=some ⟨g,off,none⟩->g<P):YS I a n xs:=
 ⟨f.len,f.lt,f.at_.imp id λ⟨g,off,e,h3,a0⟩=>⟨g,off,e,yak h3 k.size,λj hj=>by rw[k.cell (p:=⟨g,off+j,none⟩) h3 (by have:=ne xaa g off e;show ¬(P<=g/\g<h);omega)];exact a0 j hj⟩⟩
theorem RdF.keep{l}(f:RdF w P a n cap i bs)(k:Kept l h w I)(G:P<l\/h<=l):RdF I P a n cap i bs where
 lt:=yak f.lt k.size
 c0:=by rw[k.cell (p:=⟨P,0,none⟩) f.lt (by show ¬(l<=P/\P<h);omega)];exact f.c0
 c1:=by rw[k.cell (p:=⟨P,1,none⟩) f.lt (by show ¬(l<=P/\P<h);omega)];exact f.c1
 fz:=by rw[k.frozen (p:=⟨P,1,none⟩) f.lt (by show ¬(l<=P/\P<h);omega)];exact f.fz
 hi:=f.hi
 small:=f.small
 ys:=⟨f.ys.len,f.ys.lt,f.ys.at_.imp id λ⟨g,off,e,h3,a0⟩=>⟨g,off,e,yak h3 k.size,λj hj=>by rw[k.cell (p:=⟨g,off+j,none⟩) h3 (by have:=f.ne xaa g off e;show ¬(l<=g/\g<h);omega)];exact a0 j hj⟩⟩
 ne:=f.ne
def nv(bs:List Int)(i:Nat):Nat:=(bs.getD i 0).toNat
def ni(bs:List Int)(i:Nat):Nat:=if i<bs.length then i+1 else i
theorem fH(f:YS w a n bs)(i):nv bs i<256:=by
 unfold nv;by_cases h:i<bs.length
 ·have:=f.lt _ (List.getElem_mem h);rw[yai,yam h];show(bs[i]).toNat<256;omega
 rw[yai,List.getElem?_eq_none xaa];decide
theorem JC(f:RdF w P a n cap i bs)(hi:i<n):
  RdF (w.setCell ⟨P,1,none⟩ (hD ((i:Int)+1))) P a n cap (i+1) bs/\Kept P (P+1) w (w.setCell ⟨P,1,none⟩ (hD ((i:Int)+1)))/\(w.setCell ⟨P,1,none⟩ (hD ((i:Int)+1))).heap.size=w.heap.size:=by
 have ai:Kept P (P+1) w (w.setCell ⟨P,1,none⟩ (hD ((i:Int)+1))):=eP w ⟨P,1,none⟩ _ yac;exact⟨⟨by simpa using f.lt,by rw[World.cell?_setCell_other (h:=by simp)];exact f.c0,by rw[World.cell?_setCell_same (h:=f.c1)];rfl,by rw[World.frozen?_setCell];exact f.fz,hi,f.small,F0 f.ys ai f.ne,f.ne⟩,ai,by simp⟩
theorem jh(w P a n cap i bs)(f:RdF w P a n cap i bs):
  Calls prog 33 #[hB P] w λe I=>e=.returned (hD (nv bs i:Int))/\RdF I P a n cap (ni bs i) bs/\Kept P (P+1) w I/\I.heap.size=w.heap.size:=by
 have ae:=f.c0;have B:=f.c1;have hn:=f.small;have ab:=f.ys.len;by_cases hi:i<n
 ·have J:=f.fz
  obtain⟨R,off,rfl,aS,ak⟩:∃R off,a=some ⟨R,off,none⟩/\R<w.heap.size/\w.cell? ⟨R,off+i,none⟩=some (.int .u8 (bs.getD i 0)):=by
   rcases f.ys.at_ with q|⟨g,off,e,h3,a0⟩
   ·omega
   exact⟨g,off,e,h3,a0 i hi⟩
  have hb:0<=bs.getD i 0/\bs.getD i 0<256:=by
   rw[yai,yam xaa];exact f.ys.lt _ (List.getElem_mem _)
  obtain⟨bo,cr⟩:=hb;have aD:(nv bs i:Int)=bs.getD i 0:=by unfold nv;omega
  have c:ni bs i=i+1:=by unfold ni;rw[hG xaa]
  have aI:V _:=f;rw[aD,c];generalize bs.getD i 0=x at ak bo cr aD;clear f aD c aS;go_enter func33,ntmps33;go_wp2;go_quiet (fail)
  go_wp2;go_quiet (fail)
  go_wp2;go_ret;have an:=eK P (P+1) w;obtain⟨ay,aW,am⟩:=JC (aI.o.keep (eK 0 0 w _) yab) hi;exact⟨rfl,ay,(an _).trans aW,am⟩
 have aD:(nv bs i:Int)=0:=by
  unfold nv;rw[yai,List.getElem?_eq_none xaa];rfl
 have c:ni bs i=i:=by unfold ni;rw[hF xaa]
 have aI:V _:=f;rw[aD,c];have hi:n<=i:=xaa;clear f aD c;go_enter func33,ntmps33;go_wp2;go_quiet (fail)
 go_wp2;go_ret;exact⟨rfl,aI.o.keep (eK 0 0 _ _) yab,eK _ _ _ _,rfl⟩
end
section
attribute[local go_sem] eG eE eD
variable{w I:World}{lo hi i n:Nat}{S:Nat->Prop}{a:Option Addr}{vs:List Vl}
theorem VS.at_idx(f:VS w lo hi a n vs)(h:i<n):∃g off,a=some ⟨g,off,none⟩/\g<w.heap.size/\g<hi/\lo<=g/\At w g (off+i*6) (vs.getD i hI):=by
 rcases f.at_ with z|⟨g,off,e,aN,a2,bk,bq⟩
 ·omega
 exact⟨g,_,e,bk,a2,aN,bq i h⟩
theorem VS.keepC(f:VS w lo hi a n vs)(k:Chg S w I)(G:∀g,lo<=g->g<hi->¬S g):VS I lo hi a n vs:=
 ⟨f.len,f.lt,by
  rcases f.at_ with z|⟨g,off,e,aN,a2,bk,bq⟩
  ·exact .inl z
  ·refine .inr ⟨g,_,e,aN,a2,yak bk k.size,λj hj=>?_⟩
   have e:∀o,_:=λo=>k.cell (p:=⟨g,o,none⟩) bk (G g aN a2)
   obtain⟨c0,c1,c2,c3,c4,c5⟩:=bq j hj
   exact⟨hO e c0,hO e c1,hO e c2,hO e c3,hO e c4,hO e c5⟩⟩
theorem IS.keepC{xs}(f:IS w lo hi a n xs)(k:Chg S w I)(G:∀g,lo<=g->g<hi->¬S g):IS I lo hi a n xs:=
 ⟨f.len,by
  rcases f.at_ with z|⟨g,off,e,aN,a2,bk,bq⟩
  ·exact .inl z
  ·exact .inr ⟨g,_,e,aN,a2,yak bk k.size,λj hj=>by rw[k.cell bk (G g aN a2)];exact bq j hj⟩⟩
theorem rB(v){q}(am:q<cnt v.op):(eQ v).getD q 0=fld v q:=by
 have:=f9 v.op;unfold eQ;rw[yai,List.getElem?_take_of_lt am];rcases (by omega:q=0\/q=1\/q=2) with rfl|rfl|rfl<;>rfl
theorem B4(op)(ae:0<=op)(B:op<=13)(w):Calls prog 48 #[hD op] w λe I=>e=.returned (hD (cnt op:Nat))/\w=I:=by
 have:=kX _ w ae B;rw[MH ae B]at this;exact this.mono λ_ _ h=>⟨h.1,h.2.symm⟩
theorem cG.qcn(h:Zp:=by
 rw[k.block g aR (G g (by rw[e1];rfl))];exact ax):Zp:=h
open cG in
theorem fy{base e size:Nat}{v xs W W'}(o:W.ownsRow base e size v n xs)(k:Chg S W W')(G:∀g,v.ownBlock=some g->¬S g):W'.ownsRow base e size v n xs:=by
 exact qcm
theorem ii{Q}(h:w.grownBy I Q):Chg (λb=>Q=some b) w I:=
 ⟨h.os,h.tape,h.output,h.size,λk N hn=>h.block k N (λc=>hn c.symm)⟩
theorem F1{outs:List Int}{k}(N:k<outs.length)(h:(outs.take k).any (λo=>o==(i:Int))=false)(t:(outs.getD k 0==(i:Int))=false):(outs.take (k+1)).any (λo=>o==(i:Int))=false:=by
 rw[yau N,List.any_append,h];exact xis
theorem F3(w O ax Z n1 c1 T c2 n3 c3 i lo hi outs)(f:IS w lo hi Z n3 outs)(hn:n3<=1000000):
  Calls prog 125 #[eV O n1 c1 ax T c2 Z n3 c3,hD (i:Nat)] w λe I=>e=.returned (.bool (isO outs i))/\Kept 0 0 w I:=by
 have an:=ez 0 0 w (eW O n1 c1 ax T c2 Z n3 c3);have aA:V _:=ft w (.slice O n1 c1) (.slice ax T c2) (.slice Z n3 c3);have aI:V _:=f.keep an yaa;have HL:V (outs.length=n3):=f.len;have HK:V _:=an;clear f an;go_enter func125,ntmps125;go_wp2_with fail;generalize w.alloc (eW O n1 c1 ax T c2 Z n3 c3)=aO at aA aI HK⊢;go_loop [5] (λx=>∃k:Nat,k<=n3/\x=hD k/\V ((outs.take k).any (λo=>o==(i:Int))=false)) (λx=>n3-(intOf x).toNat)
 case atStart=>exact⟨0,yae,rfl,rfl⟩
 case round=>
  obtain⟨k,N,rfl,aU⟩:=hrel;obtain⟨_,bd,aL,aJ⟩:=aA.o;by_cases aC:k<n3
  ·obtain⟨g,off,m,rfl,em,aq,aR,af⟩:=aI.o.at_idx (o:=k) xaa xaa;obtain rfl:k=m:=xaa;rw[Int.toNat_natCast]at af;cases t:(outs.getD k 0==(i:Int))
   ·have U:V _:=F1 (hO HL.o aC) aU.o t;generalize outs.getD k 0=x at af t;clear aU;exact xcx
   have U:V (isO outs i=true):=by
    show _=_;unfold isO;rw[List.any_eq_true];exact⟨outs.getD k 0,gY (hO HL.o aC),t⟩
   generalize outs.getD k 0=x at af t;clear aU;go_wp2;go_ret;exact⟨hS U.o,HK.o⟩
  obtain rfl:k=n3:=xaa
  have U:V (isO outs i=false):=by
   exact xfj
  clear aU;go_wp2;go_ret;exact⟨hS U.o,HK.o⟩
end
section
attribute[local go_sem] eG eE
theorem qQ(b w):(Op.unary .neg (.float .f64 b)).run prog w=.ok (.float .f64 (Op.negFloat .f64 b)) w:=rfl
theorem xu{b}(h:b<18446744073709551616):Op.negFloat .f64 b<18446744073709551616:=by
 obtain⟨s,r,av,rfl⟩:=jl b h;rw[ym s av];exact Je av
theorem qR(n):floatOfInt .f64 n<18446744073709551616:=by
 have:=floatOfInt_wf .f64 n;simpa[Lit.wf] using this
theorem sf(n):IntKind.u64.wrap n<18446744073709551616:=by rw[IntKind.wrap_u64];omega
theorem MZ(a b)(B:0<=a)(J:a<18446744073709551616)(h3:0<=b)(a0:b<18446744073709551616):∃n:Nat,bits .or .u64 a b=(n:Int)/\n<18446744073709551616:=by
 refine⟨_,u64_or a b B J h3 a0,?_⟩;have:a.toNat|||b.toNat<2 ^ 64:=Nat.or_lt_two_pow xaa xaa
 simpa using this
theorem JD(x):x%16<6\/(6<=x%16/\x%16<9)\/x%16=9\/x%16=10\/x%16=11\/x%16=12\/x%16=13\/x%16=14\/x%16=15:=xaa
theorem sO{S}(w W':World)(xs bl)(k:Chg S (w.alloc (.cells xs bl)) W')(aZ:¬S w.heap.size):(∀o,W'.cell? ⟨w.heap.size,o,none⟩=xs[o]?)/\(∀o,W'.frozen? ⟨w.heap.size,o,none⟩=false)/\w.heap.size<W'.heap.size:=by
 have B:w.heap.size<(w.alloc (.cells xs bl)).heap.size:=by simp
 refine⟨λo=>?_,λo=>?_,yak B k.size⟩
 ·rw[k.cell B aZ,yav]
 rw[k.frozen B aZ];simp[World.frozen?,World.alloc,-World.alloc_eq]
theorem B5(w a n m cap xs)(h:YS w a n xs)(aq:m<=n)(bv:m<=500)(ak:(xs.take 500).length=m)(bl):
  RdF (w.alloc (.cells #[.slice a m cap,hD 0] bl)) w.heap.size a m cap 0 (xs.take 500):=by
 have hb:=sO (S:=λ_=>False) w _ #[.slice a m cap,hD 0] bl (hL).chg (λc=>c);refine⟨hb.2.2,hb.1 0,hb.1 1,hb.2.1 1,yae,bv,⟨ak,λx q=>h.lt x (List.mem_of_mem_take q),?_⟩,?_⟩
 ·rcases h.at_ with q|⟨g,off,e,h3,a0⟩
  ·exact .inl xaa
  refine .inr ⟨g,off,e,yak h3 (ez 0 0 w _).size,λk N=>?_⟩;rw[(ez 0 0 w _).cell (p:=⟨g,off+k,none⟩) h3 xaa,a0 k xaa];rw[yai,yai,List.getElem?_take,hG xaa]
 intro ae g off e;rcases h.at_ with q|⟨aB,F,z,h3,a0⟩
 ·omega
 rw[e]at z;injection z with z;injection z with e1;omega
theorem M0(w a n cap xs)(h:YS w a n xs)(ad:n<=cap):
  Calls prog 13 #[.slice a n cap] w λe I=>e=.returned (hB w.heap.size)/\(∃m,RdF I w.heap.size a m cap 0 (xs.take 500))/\Kept 0 0 w I:=by
 have ab:=h.len;by_cases hn:n<=500
 ·have H:V _:=B5 w a n n cap xs h yad hn (by rw[List.length_take];omega) 64;have HK:V _:=ez 0 0 w (.cells #[.slice a n cap,hD 0] 64);clear h;go_enter func13,ntmps13;go_wp2;go_ret;exact⟨rfl,⟨n,H.o⟩,HK.o⟩
 obtain⟨x,rfl⟩:∃x,a=some x:=by
  rcases h.at_ with q|⟨g,off,e,_⟩
  ·omega
  exact⟨_,e⟩
 have H:V _:=B5 w (some x) n 500 cap xs h xaa yad (by rw[List.length_take];omega) 64;have HK:V _:=ez 0 0 w (.cells #[.slice (some x) 500 cap,hD 0] 64);have T:500<=cap:=xaa;have hn:500<n:=xaa;clear h;go_enter func13,ntmps13;go_wp2;go_ret;exact⟨rfl,⟨500,H.o⟩,HK.o⟩
end
section
def l3n(x:Nat):List UInt8:=if x%10<6 then gZ (x/10%6)else if x%10=6 then gZ x++[46,53]else if x%10=7 then[48,46]++gZ x else if x%10=8 then[49]else ([48,48]++gZ x)++[46,50,53,48,48]
theorem A0(w P a n cap i bs)(f:RdF w P a n cap i bs):
  Calls prog 150 #[hB P] w λe I=>e=.returned (eN (l3n (nv bs i)))/\RdF I P a n cap (ni bs i) bs/\Kept P (P+1) w I/\I.heap.size=w.heap.size:=by
 have bu:V _:=jh w P a n _ i _ f;have ak:=fH f.ys i;generalize nv _ i=x at bu ak⊢;have HD:V _:=y9 x x yad xaa;have g:V (∀W:World,Calls _ _ #[.int _ (x/10%6)] W _):=y9 _ (x/10%6) yad xaa;have HL:V ((gZ x).length<=300):=by have:=jO x;show _<=_;omega
 clear f;unfold l3n;rcases (by omega:x%10<6\/x%10=6\/x%10=7\/x%10=8\/x%10=9) with c|c|c|c|c
 ·rw[hG c];have c1:(x:Int)%10<6:=xaa;unfold eN at g⊢;go_enter func150,ntmps150;go_wp2_with (first|(go_at_call 33;refine yaj bu.o ?_;rintro e aO ⟨rfl,av,aj,aN⟩)|(go_at_call 71;refine yaj (g.o _) ?_;rintro e ag ⟨rfl,rfl⟩));go_ret;exact⟨rfl,av,aj,aN⟩
 ·rw[hF xaa,hG c];have c1:(x:Int)%10=6:=xaa;unfold eN at HD⊢;rw[<-tX]
  have bi:¬(9223372036854775807<(⟨(gZ x).toArray⟩:ByteArray).size+(⟨#[46,53]⟩:ByteArray).size):=by
   rw[gi];have:=HL.o;simp[ByteArray.size];omega
  exact xdo
 ·rw[hF xaa,hF xaa,hG c];have c1:(x:Int)%10=7:=xaa;unfold eN at HD⊢;rw[<-tX]
  have bi:¬(9223372036854775807<(⟨#[48,46]⟩:ByteArray).size+(⟨(gZ x).toArray⟩:ByteArray).size):=by
   rw[gi];have:=HL.o;simp[ByteArray.size];omega
  exact xdo
 ·rw[hF xaa,hF xaa,hF xaa,hG c];have c1:(x:Int)%10=8:=xaa;go_enter func150,ntmps150;go_wp2_with (go_at_call 33;refine yaj bu.o ?_;rintro e aO ⟨rfl,av,aj,aN⟩);go_ret;exact⟨rfl,av,aj,aN⟩
 rw[hF xaa,hF xaa,hF xaa,hF xaa];have c1:(x:Int)%10=9:=xaa;unfold eN at HD⊢;rw[<-tX,<-tX]
 have bi:¬(9223372036854775807<(⟨#[48,48]⟩:ByteArray).size+(⟨(gZ x).toArray⟩:ByteArray).size):=by
  rw[gi];have:=HL.o;simp[ByteArray.size];omega
 have b5:¬(9223372036854775807<((⟨#[48,48]⟩:ByteArray)++(⟨(gZ x).toArray⟩:ByteArray)).size+(⟨#[46,50,53,48,48]⟩:ByteArray).size):=by
  rw[yar,gi];have:=HL.o;simp[ByteArray.size];omega
 generalize (⟨_⟩:ByteArray)=h at HD bi b5⊢;exact xcm
end
section
attribute[local go_sem] eG eE eD
variable{w W':World}{br:Array Oper}{lo p hi off R j g i:Nat}{rest:List Oper}{s x:List UInt8}{o:Oper}{v:Value}{S:List (List UInt8)}{a:Act}{ts:List Tok}{b:Option Addr}{Q:Exit->Act->World->Prop}
theorem mL{P}(w)(X:o.guard=none)(s x t)
  (al:o.op=.call {callee:=.builtin .append,args:=#[s,x],argTypes:=#[t,t]})
  (base) (e) (i) (z) (size f) (ht:P.underlying t=some (.slice e)) (hi:P.info? e=some i) (bi:i.zero=some z)
  (n:i.size=size) (l:i.bytes=f) (q:z.cells.size=size) (ci:0<size) (ar:a.eval s=.slice none 0 0)
  (b) (m c) (ao) (ak:a.eval x=.slice b m c) (ab:ao.length=m*size) (k:(b=none/\m=0)\/∃ai,b=some ai/\∀j u,ao[j]? =some u->w.cell? (ai.add j)=some u) (B:∀u∈ao,u.oneCell'=true)
  (C:m<=maxLen) (y:m*f<=140737488355328) (T:base<=w.heap.size)
  (h:∀v' I,I.ownsRow base e size v' m ao->w.grownBy I none->wpList P br Q rest (a.put o.dst v') I):wpList P br Q (o::rest) a w:=by
 rcases k with⟨rfl,rfl⟩|⟨ai,rfl,hn⟩
 ·have r:=List.length_eq_zero_iff.1 (hR ab);subst r
  have av:(Builtin.append_ #[t,t] o.type #[.slice none 0 0,.slice none 0 c]).run P w=.ok (.slice none 0 0) w:=by
   simp[Builtin.append_,run_underlying ht,sizeOf,typeInfo,hi,Builtin.lenOf,run_firstCells_none]
  refine wpList_plain X λ_ aw=>?_;unfold Oper.wp execOp;simp only[al,resolve,invoke,builtin,Sem.run_bind,Sem.run_pure,Result.andThen_ok,List.map_toArray,List.map_cons,List.map_nil,ar,ak,av];exact aw _ _ (h _ _ (yaw w _ e _) ⟨rfl,rfl,rfl,yad,λ_ _ _=>rfl⟩)
 refine wpList_append_own w X s x t al _ e i z _ _ ht hi bi n l q ci _ 0 _ ar (yaw w _ e _) _ m c _ ak ab hn B xaa (by grind) T ?_;intro v' I aL aJ _;rw[Nat.zero_add,List.nil_append]at aL;exact h _ _ aL aJ
theorem jX(g off j):(⟨g,off,none⟩:Addr).add j=⟨g,off+j,none⟩:=by
 simp[Addr.add_lit]
theorem P2{n xs}(h:IS w lo hi b n xs):(b=none/\n=0)\/∃ai,b=some ai/\∀j u,(xs.map (Value.int .i64))[j]? =some u->w.cell? (ai.add j)=some u:=by
 have ab:=h.len;rcases h.at_ with z|⟨g,off,rfl,_,_,_,ad⟩
 ·subst z;have:=List.length_eq_zero_iff.1 ab;subst this;cases b<;>grind
 refine .inr ⟨_,rfl,λj u aH=>?_⟩;have hj:j<n:=by grind
 rw[jX,ad j hj];simp_all
theorem P3{n vs}(h:VS w lo hi b n vs):(b=none/\n=0)\/∃ai,b=some ai/\∀j u,(fK vs)[j]? =some u->w.cell? (ai.add j)=some u:=by
 have ab:=h.len;rcases h.at_ with z|⟨g,off,rfl,_,_,_,ad⟩
 ·subst z;have:=List.length_eq_zero_iff.1 ab;subst this;cases b<;>grind[fK]
 refine .inr ⟨_,rfl,λj u aH=>?_⟩;have hj:j<n*6:=by grind[qB]
 have t:j=j/6*6+j%6:=xaa;have N:j/6<n:=xaa;rw[t,sJ _ _ _ xaa xaa]at aH;rw[jX];obtain⟨c0,c1,c2,c3,c4,c5⟩:=ad _ N;grind[Vl.cells]
theorem oI(w lo X b n c xs)(ce:n<=1000000)(h:IS w lo X b n xs):
  Calls prog 76 #[.slice b n c] w λe I=>∃a cap,e=.returned (.slice a n cap)/\I.ownsRow w.heap.size 3 1 (.slice a n cap) n (xs.map (Value.int .i64))/\Kept 0 0 w I:=by
 obtain⟨b3,hi,a6,b8,b5⟩:=info_parts qz;have bu:V _:=P2 h;have bn:V _:=h.len;clear h;go_enter func76,ntmps76;go_wp2_with (first|(at_builtin;refine mL _ rfl _ _ _ rfl w.heap.size 3 _ _ 1 8 underlying23 hi a6 b8 b5 rfl xab rfl b n c _ rfl ?c0 bu.o ?c2 ?c3 ?c4 ?c5 ?_))
 case c0=>rw[List.length_map,bn.o,Nat.mul_one]
 case c2=>intro u aH;obtain⟨x,_,rfl⟩:=List.mem_map.1 aH;rfl
 case c3=>unfold maxLen;omega
 case c4=>omega
 case c5=>omega
 intro v' bg bQ a0;obtain⟨a,cap,rfl⟩:=jp bQ;have U:V _:=mH a0 (λk N=>by cases N) (Kept.refl 0 0 w) yad;have R2:V _:=bQ;clear bQ a0;go_wp2;go_ret;exact⟨a,_,rfl,R2.o,U.o⟩
theorem F4{t k}(N:k<j-i):bt (lh t i j) k=bt t (i+k):=by
 simp_all[bt,lh]
def io(t:List UInt8):List Int:=t.map λb=>(b.toNat:Int)
theorem rC(t k)(h:k<t.length):(io t).getD k 0=bt t k:=by
 simp_all[io,bt]
theorem F5(t):strOfNums (io t)=⟨t.toArray⟩:=by
 simp_all[strOfNums,io,List.map_congr_left]
theorem kE{n t}(f:TxS w g off n t)(c):(convert 22 9 (.slice (some ⟨g,off,none⟩) n c)).run prog w=.ok (eN t) w:=by
 have hb:prog.underlying 5=some (.int .u8):=by kernel_rfl
 have ar:prog.underlying 9=some .string:=by kernel_rfl
 have h:=run_convert_bytes_arg w 22 5 underlying22 hb g _ n c (io t) (by unfold io;rw[List.length_map];exact f.len) (λk N=>by rw[rC t k (hO f.len N)];exact f.at_ k N) 9 ar;rw[F5]at h;exact h
theorem TxS.cut{n t}(f:TxS w g off n t)(hj:j<=n):TxS w g (off+i) (j-i) (lh t i j):=
 ⟨yV (hO f.len hj),f.lt,λk N=>by
  rw[F4 N,Nat.add_assoc]
  exact f.at_ _ xaa⟩
def oJ:Array Value:=(keysL.map λl=>eN l).toArray
theorem F6(w):Calls prog 139 #[] w λe I=>e=.returned (hC w.heap.size 15 15)/\w.alloc (.cells oJ 9)=I:=by
 go_enter func139,ntmps139;go_wp2;go_ret;exact⟨rfl,rfl⟩
def jc(k:Tok):Value:=.agg #[eN k.sym,.int .i64 (k.pos:Int),eN k.text]
def NxO(w:World)(k:Tok)(j:Nat)(e:Ending)(w':World):Prop:=e=.returned (.tuple #[jc k,.int .i64 (j:Int)])/\Kept 0 0 w w'
structure TB(W:World)(p:Nat)(s:List UInt8)(k:Nat)(x:List UInt8):Prop where
 lt:p<W.heap.size
 c0:W.cell? ⟨p,0,none⟩=some (eN s)
 c1:W.cell? ⟨p,1,none⟩=some (.int .i64 (k:Int))
 c2:W.cell? ⟨p,2,none⟩=some (eN x)
 fr:∀o,W.frozen? ⟨p,o,none⟩=false
theorem TB.keep{W k}(h:TB W p s k x)(q:Kept 0 0 W W'):TB W' p s k x:=
 ⟨yak h.lt q.size,(q.cell (p:=⟨p,0,none⟩) h.lt xaa).trans h.c0,(q.cell (p:=⟨p,1,none⟩) h.lt xaa).trans h.c1,(q.cell (p:=⟨p,2,none⟩) h.lt xaa).trans h.c2,λo=>(q.frozen (p:=⟨p,o,none⟩) h.lt xaa).trans (h.fr o)⟩
theorem TB.sym{W k}(h:TB W p s k x)(z):TB (W.setCell ⟨p,0,none⟩ (eN z)) p z k x:=
 ⟨by simpa using h.lt,fD _ _ _ _ _ h.c0,(eM _ _ _ _ _ _ (.inr xaa)).trans h.c1,(eM _ _ _ _ _ _ (.inr xaa)).trans h.c2,λo=>by simp[h.fr o]⟩
theorem TB.text{W k}(h:TB W p s k x)(z):TB (W.setCell ⟨p,2,none⟩ (eN z)) p s k z:=
 ⟨by simpa using h.lt,(eM _ _ _ _ _ _ (.inr xaa)).trans h.c0,(eM _ _ _ _ _ _ (.inr xaa)).trans h.c1,fD _ _ _ _ _ h.c2,λo=>by simp[h.fr o]⟩
theorem TB.posn{W k}(h:TB W p s k x)(z:Nat):TB (W.setCell ⟨p,1,none⟩ (hD z)) p s z x:=
 ⟨by simpa using h.lt,(eM _ _ _ _ _ _ (.inr xaa)).trans h.c0,fD _ _ _ _ _ h.c1,(eM _ _ _ _ _ _ (.inr xaa)).trans h.c2,λo=>by simp[h.fr o]⟩
theorem TB.other{W q o k}(h:TB W p s k x)(am:q≠p):TB (W.setCell ⟨q,o,none⟩ v) p s k x:=
 ⟨by simpa using h.lt,(eM _ _ _ _ _ _ (.inl am)).trans h.c0,(eM _ _ _ _ _ _ (.inl am)).trans h.c1,(eM _ _ _ _ _ _ (.inl am)).trans h.c2,λo=>by simp[h.fr o]⟩
theorem iq(w:World)(s)(k:Nat)(x):TB (w.alloc (.cells #[eN s,hD k,eN x] 92)) w.heap.size s k x:=
 ⟨by simp,by rw[yav];rfl,by rw[yav];rfl,by rw[yav];rfl,λo=>World.frozen?_alloc_at _ _ w.heap.size o rfl⟩
theorem oK{W}(k:Kept 0 0 w W){o}(h:w.heap.size<=p):Kept 0 0 w (W.setCell ⟨p,o,none⟩ v):=
 Chg.kept (S:=λi=>i=p) k ((eP (lo:=p) (hi:=p+1) W ⟨p,o,none⟩ v yac).chg1 rfl) (λi hi=>by omega)
structure NI(w W:World)(s:List UInt8)(k:Nat)(x:List UInt8):Prop where
 r:TB W w.heap.size [] 0 []
 t:TB W (w.heap.size+1) s k x
 k:Kept 0 0 w W
theorem NI.keep{W k}(h:NI w W s k x)(q:Kept 0 0 W W'):NI w W' s k x:=⟨h.r.keep q,h.t.keep q,h.k.trans q⟩
theorem NI.sym{W k}(h:NI w W s k x)(z):NI w (W.setCell ⟨w.heap.size+1,0,none⟩ (eN z)) z k x:=⟨h.r.other xaa,h.t.sym z,oK h.k xaa⟩
theorem NI.text{W k}(h:NI w W s k x)(z):NI w (W.setCell ⟨w.heap.size+1,2,none⟩ (eN z)) s k z:=⟨h.r.other xaa,h.t.text z,oK h.k xaa⟩
theorem A5(w)(i:Nat):NI w ((w.alloc (.cells #[eN [],hD (0:Nat),eN []] 92)).alloc (.cells #[eN [],hD i,eN []] 92)) [] i []:=by
 refine⟨(iq w _ 0 _).keep (ez 0 0 _ _),?_,(ez 0 0 w _).trans (ez 0 0 _ _)⟩;have h:=iq (w.alloc (.cells #[eN [],hD (0:Nat),eN []] 92)) [] i [];simp_all
theorem NI.fin{W k}(h:NI w W s k x):TB (((W.setCell ⟨w.heap.size,0,none⟩ (eN s)).setCell ⟨w.heap.size,1,none⟩ (hD k)).setCell ⟨w.heap.size,2,none⟩ (eN x)) w.heap.size s k x/\Kept 0 0 w (((W.setCell ⟨w.heap.size,0,none⟩ (eN s)).setCell ⟨w.heap.size,1,none⟩ (hD k)).setCell ⟨w.heap.size,2,none⟩ (eN x)):=
 ⟨((h.r.sym s).posn k).text x,oK (oK (oK h.k yad) yad) yad⟩
def sh(s:List UInt8)(k:Nat):List UInt8:=if s∈keysL.take k then s else gQ
theorem F7(W aO:World)(k)(N:k<15)(h:Kept 0 0 (aO.alloc (.cells oJ 9)) W):W.cell? ⟨aO.heap.size,k,none⟩=some (eN (keysL.getD k [])):=by
 rw[h.cell xac xaa,yav];have ab:k<keysL.length:=N;show oJ[k]? =_;unfold oJ;simp_all
theorem Dz{k}(N:k<15)(h:keysL.getD k []=s):sh s (k+1)=s:=by
 unfold sh;rw[hG];have ab:k<keysL.length:=N;exact xjo
theorem A6{k}(N:k<15)(h:keysL.getD k []≠s):sh s (k+1)=sh s k:=by
 unfold sh;have ab:k<keysL.length:=N;exact xfv
theorem F8{t}(B:j<t.length):gV qL t j=if nY (bt t j)=true\/dig (bt t j)=true then gV qL t (j+1)else j:=by
 grind[xi,qL,px]
structure KI(w W:World)(B:Nat)(x:List UInt8)(i k:Nat):Prop where
 n:NI w W (sh x k) i x
 lt:B<W.heap.size
 ne:w.heap.size+1<B
 c:∀q,q<15->W.cell? ⟨B,q,none⟩=some (eN (keysL.getD q []))
theorem F9{W}(h:NI w W gQ i x):KI w (W.alloc (.cells oJ 9)) W.heap.size x i 0:=
 ⟨h.keep (ez 0 0 W _),by simp,h.t.lt,λq am=>F7 _ W q am hL⟩
theorem KI.keep{W k}(h:KI w W R x i k)(q:Kept 0 0 W W'):KI w W' R x i k:=
 ⟨h.n.keep q,yak h.lt q.size,h.ne,λj hj=>(q.cell (p:=⟨R,j,none⟩) h.lt xaa).trans (h.c j hj)⟩
theorem KI.hit{W k}(h:KI w W R x i k)(N:k<15)(e:keysL.getD k []=x):KI w (W.setCell ⟨w.heap.size+1,0,none⟩ (eN x)) R x i (k+1):=by
 refine⟨?_,by simpa using h.lt,h.ne,λj hj=>(eM _ _ _ _ _ _ (.inl (hM h.ne))).trans (h.c j hj)⟩;rw[Dz N e];exact h.n.sym x
theorem KI.miss{W k}(h:KI w W R x i k)(N:k<15)(e:keysL.getD k []≠x):KI w W R x i (k+1):=by
 refine⟨?_,h.lt,h.ne,h.c⟩;rw[A6 N e];exact h.n
theorem bL.qbu(h:Zp:=by
 go_wp2_with (go_at_call 138;refine yaj (ca.o _) ?_;rintro e aO ⟨rfl,rfl⟩);clear c0;rename World=>W0
 go_loopw [7] (λaD W=>W=W0/\∃j:Nat,j<=n/\aD=hD j/\V (gV qL t j=E)) (λaD _=>n-(intOf aD).toNat)
 case atStart=>grind
 case round=>
  obtain⟨rfl,j,hj,rfl,ax⟩:=hrel;by_cases ec:j=E
  ·subst ec;by_cases aC:j<n
   ·have c1:=(aI.o _ bu.o.k).at_ j aC;have bo:V _:=ax.o;rw[F8 (hO b6.o aC)]at bo;have HD:V _:=lE (bt t j) wr;have l:V _:=oG (bt t j) wr
    have aB:¬(nY _=true\/dig _=true):=λh=>by
     have B:=bo.o
     rw[hG h]at B
     have:=nF qL t (j+1)
     omega
    have ag:nY (bt t j)=false:=by grind
    have F:dig (bt t j)=false:=by grind
    rw[ag]at l;rw[F]at HD;clear aB ag F bo;generalize bt t j=x at c1 HD l
    go_upto_region 6 with (first
     |(go_at_call 138;refine yaj l.o ?_;rintro e aO ⟨rfl,an⟩;obtain rfl:=an.symm)
     |(go_at_call 116;refine yaj HD.o ?_;rintro e aO ⟨rfl,an⟩;obtain rfl:=an.symm))
    clear c1 HD l;have bc:V _:=kE ((aI.o _ bu.o.k).cut (i:=i) aA.o.1) (cap-i);have H:=aA.o.2;have bC:(0:Int)<=i:=xaa;have aN:(i:Int)<=j:=xaa;have a2:(j:Int)<=cap:=xaa;have e1:((j:Int)-i).toNat=j-i:=xaa;have aQ:=bu.o.t.c2;have bY:=bu.o.t.fr 2;have ad:=bc.o;go_upto_region 7 with fail;change Code.wp _ _ _ _ (wr.setCell _ (eN _));have q:V _:=bu.o.text (lh t i j);clear bc ad aQ bY H bC aN a2 e1;generalize wr.setCell _ _=az at q⊢;generalize ak:lh t i j=x at q⊢;have bn:V _:=ak;clear ak;have aQ:=q.o.t.c0;have bY:=q.o.t.fr 0;go_upto_region 8 with fail;change Code.wp _ _ _ _ (az.setCell _ (eN gQ));have bi:V _:=q.o.sym gQ;clear aQ bY q;generalize az.setCell _ _=W2 at bi⊢;go_upto_region 9 with (go_at_call 139;refine yaj (F6 _) ?_;rintro e ab ⟨rfl,rfl⟩);have bR:V _:=F9 bi.o;generalize W2.alloc _=ab at bR⊢;generalize W2.heap.size=R at bR⊢;clear bi;go_wp2_with fail;go_loopw [9] (λaD W=>∃k:Nat,k<=15/\aD=hD k/\V (KI w W R x i k)) (λaD _=>15-(intOf aD).toNat)
    case atStart=>exact⟨0,by omega,rfl,bR⟩
    case round=>
     exact xaq
   go_upto_region 6 with fail;have bc:V _:=kE ((aI.o _ bu.o.k).cut (i:=i) aA.o.1) (cap-i);have H:=aA.o.2;have bC:(0:Int)<=i:=xaa;have aN:(i:Int)<=j:=xaa;have a2:(j:Int)<=cap:=xaa;have e1:((j:Int)-i).toNat=j-i:=xaa;have aQ:=bu.o.t.c2;have bY:=bu.o.t.fr 2;have ad:=bc.o;go_upto_region 7 with fail;change Code.wp _ _ _ _ (wr.setCell _ (eN _));have q:V _:=bu.o.text (lh t i j);clear bc ad aQ bY H bC aN a2 e1;generalize wr.setCell _ _=az at q⊢;generalize ak:lh t i j=x at q⊢;have bn:V _:=ak;clear ak;have aQ:=q.o.t.c0;have bY:=q.o.t.fr 0;go_upto_region 8 with fail;change Code.wp _ _ _ _ (az.setCell _ (eN gQ));have bi:V _:=q.o.sym gQ;clear aQ bY q;generalize az.setCell _ _=W2 at bi⊢;go_upto_region 9 with (go_at_call 139;refine yaj (F6 _) ?_;rintro e ab ⟨rfl,rfl⟩);have bR:V _:=F9 bi.o;generalize W2.alloc _=ab at bR⊢;generalize W2.heap.size=R at bR⊢;clear bi;go_wp2_with fail;go_loopw [9] (λaD W=>∃k:Nat,k<=15/\aD=hD k/\V (KI w W R x i k)) (λaD _=>15-(intOf aD).toNat)
   case atStart=>grind
   case round=>
    exact xaq
  have aC:j<n:=by
   rcases Nat.lt_or_ge j n with c|c
   ·exact c
   exact absurd ((px (λh=>hM b6.o)).symm.trans ax.o) ec
  have c1:=(aI.o _ bu.o.k).at_ j aC;have bo:V _:=ax.o;rw[F8 (hO b6.o aC)]at bo;have HD:V _:=lE (bt t j) wr;have l:V _:=oG (bt t j) wr;generalize bt t j=x at c1 HD l bo;cases ag:nY x
  ·rw[ag]at l bo;cases F:dig x
   ·rw[F]at bo;exact absurd (by simpa using bo.o) ec
   rw[F]at HD bo;have U:V (gV qL t (j+1)=E):=by grind
   go_wp2_with (first
    |(go_at_call 138;refine yaj l.o ?_;rintro e aO ⟨rfl,rfl⟩)
    |(go_at_call 116;refine yaj HD.o ?_;rintro e aO ⟨rfl,rfl⟩))
   grind[intOf]
  rw[ag]at l bo;have U:V (gV qL t (j+1)=E):=by grind
  go_wp2_with (first
   |(go_at_call 138;refine yaj l.o ?_;rintro e aO ⟨rfl,rfl⟩))
  grind[intOf]):Zp:=h
open bL in
theorem DA(w g off n cap t)(f:TxS w g off n t)(i)(hi:i<n)(hn:n<=1000000)(aG:n<=cap)(bJ:nY (bt t i)=true):
  Calls prog 114 #[.slice (some ⟨g,off,none⟩) n cap,hD i] w (NxO w (nxT t i) (nxE t i)):=by
 have aI:V (∀W,Kept 0 0 w W->_):=λW k=>f.keep k;have b1:V (nxT t i=⟨_,i,_⟩):=hG bJ;have HE:V (nxE t i=gV _ t i):=hG bJ;have aA:V (gV qL t i<=n/\i<=gV qL t i):=⟨by rw[<-f.len];exact lX _ _ _ (hR f.len),nF _ _ _⟩
 have b6:V _:=f.len;have aR:=f.lt;have ca:V (∀W,Calls _ _ _ W λe I=>e=.returned (.bool true)/\I=W):=λW=>by rw[<-bJ];exact oG _ W
 unfold NxO;rw[b1.o,HE.o];obtain⟨E,ar⟩:∃E,E=gV qL t i:=⟨_,rfl⟩
 rw[<-ar]at aA⊢;have HR:V _:=ar.symm;clear ar b1 HE f bJ;exact qbt
theorem zd{t E}(h:gV dig t j=E)(hj:j<t.length)(Z:j=E):dig (bt t j)=false:=by
 subst Z;cases c:dig (bt t j)
 ·rfl
 have:=py hj c;omega
theorem Ga{t E}(h:gV dig t j=E)(Z:j≠E):j<t.length/\dig (bt t j)=true/\gV dig t (j+1)=E:=by
 have B:=h;rw[gV]at B;split at B
 ·rename_i c;exact⟨c.1,c.2,B⟩
 exact absurd B Z
theorem Gb(w g off n cap t)(f:TxS w g off n t)(i)(hi:i<n)(hn:n<=1000000)(aG:n<=cap)(bJ:nY (bt t i)=false)(G:dig (bt t i)=true):
  Calls prog 114 #[.slice (some ⟨g,off,none⟩) n cap,hD i] w (NxO w (nxT t i) (nxE t i)):=by
 have aI:V (∀W,Kept 0 0 w W->_):=λW k=>f.keep k;have b1:V (nxT t i=⟨tQ t i,i,lh t i (sE t i)⟩):=by show _=_;unfold nxT;rw[bJ,hF xac,hG G]
 have HE:V (nxE t i=sE t i):=by show _=_;unfold nxE;rw[bJ,hF xac,hG G]
 have aA:V (gV dig t i<=n/\i<=gV dig t i):=⟨by rw[<-f.len];exact lX _ _ _ (hR f.len),nF _ _ _⟩
 have b6:V _:=f.len;have aR:=f.lt;have ca:V (∀W,Calls _ _ _ W λe I=>e=.returned (.bool false)/\I=W):=λW=>by rw[<-bJ];exact oG _ W
 have O:V (∀W,Calls _ _ _ W λe I=>e=.returned (.bool true)/\I=W):=λW=>by rw[<-G];exact lE _ W
 have u:V (sE t i=if gV _ t i+1<t.length/\bt t _=46/\dig _=true then gV _ t _ else gV _ t i):=rfl;have P:V (tQ t i=if gV _ t i+1<t.length/\bt t _=46/\dig _=true then li else iG):=rfl;unfold NxO;rw[b1.o,HE.o];obtain⟨E,ar⟩:∃E,E=gV dig t i:=⟨_,rfl⟩
 rw[<-ar]at aA u P;have HR:V _:=ar.symm;clear ar b1 HE f bJ G;generalize sE t i=Y at u⊢;generalize tQ t i=Z at P⊢;go_enter func114,ntmps114;go_upto_region 3 with fail;have bu:V _:=A5 w i;change Code.wp _ _ _ _ ((w.alloc (.cells #[eN _,.int _ _,eN _] 92)).alloc (.cells #[eN _,hD _,eN _] 92));generalize (w.alloc _).alloc _=W0 at bu⊢;have c0:=(aI.o _ bu.o.k).at_ i hi;generalize bt t i=bI at c0 ca O
 go_upto_region 16 with (first
  |(go_at_call 138;refine yaj (ca.o _) ?_;rintro e aO ⟨rfl,an⟩;obtain rfl:=an.symm)
  |(go_at_call 116;refine yaj (O.o _) ?_;rintro e aO ⟨rfl,an⟩;obtain rfl:=an.symm))
 have aQ:=bu.o.t.c0;have bY:=bu.o.t.fr 0;go_upto_region 17 with fail;change Code.wp _ _ _ _ (W0.setCell _ (eN iG));have bi:V _:=bu.o.sym iG;clear aQ bY bu c0;generalize W0.setCell _ _=W2 at bi⊢;go_loopw [7] (λaD W=>W=W2/\∃j:Nat,j<=n/\aD=hD j/\V (gV dig t j=E)) (λaD _=>n-(intOf aD).toNat)
 case atStart=>exact⟨rfl,i,by omega,rfl,HR⟩
 case round=>
  obtain⟨rfl,j,hj,rfl,ax⟩:=hrel;by_cases ec:j=E
  ·by_cases aC:j<n
   ·have c1:=(aI.o _ bi.o.k).at_ j aC;have HD:V _:=lE (bt t j) wr;rw[zd ax.o (hO b6.o aC) ec]at HD;subst ec;generalize af:bt t j=ag at c1 HD u P;go_upto_region 19 with (go_at_call 116;refine yaj HD.o ?_;rintro e aO ⟨rfl,an⟩;obtain rfl:=an.symm);by_cases ck:j+1<n
    ·by_cases l:ag=46
     ·have K:V _:=lE (bt t (j+1)) wr;have c2:=(aI.o _ bi.o.k).at_ _ ck;subst l;cases X:dig (bt t (j+1))
      ·have aa:V (Z=iG/\Y=j):=⟨P.o.trans (hF (λh=>by rw[X]at h;exact absurd h.2.2 xac)),u.o.trans (hF (λh=>by rw[X]at h;exact absurd h.2.2 xac))⟩
       have c:V (i<=j/\j<=n):=⟨aA.o.2,aA.o.1⟩
       rw[X]at K;clear HD af X u P;generalize bt t _=ai at c2 K;go_upto_region 24 with (go_at_call 116;refine yaj K.o ?_;rintro e aO ⟨rfl,an⟩;obtain rfl:=an.symm);clear c1 c2 K;exact xag
      have T:V (Z=li/\Y=gV _ t _):=⟨P.o.trans (hG ⟨hO b6.o ck,rfl,X⟩),u.o.trans (hG ⟨hO b6.o ck,rfl,X⟩)⟩
      rw[X]at K;clear HD af X u P;generalize bt t _=ai at c2 K;go_upto_region 20 with (go_at_call 116;refine yaj K.o ?_;rintro e aO ⟨rfl,an⟩;obtain rfl:=an.symm);clear c1 c2 K;have aQ:=bi.o.t.c0;have bY:=bi.o.t.fr 0;go_upto_region 21 with fail;change Code.wp _ _ _ _ (wr.setCell _ (eN li));have C:V _:=bi.o.sym li;clear aQ bY bi;generalize wr.setCell _ _=ab at C⊢;have y:V (gV dig t (j+1)<=n/\i<=gV dig t (j+1)):=⟨by rw[<-b6.o];exact lX _ _ _ (hR b6.o),hN (nF dig t (j+1)) aA.o.2⟩
      obtain⟨F,bp⟩:∃F,F=gV dig t (j+1):=⟨_,rfl⟩
      rw[<-bp]at T y;have aj:V _:=bp.symm;clear bp;go_wp2_with fail;go_loopw [7] (λaD W=>W=ab/\∃j:Nat,j<=n/\aD=hD j/\V (gV dig t j=F)) (λaD _=>n-(intOf aD).toNat)
      case atStart=>exact⟨rfl,j+1,by omega,by go_num,aj⟩
      case round=>
       obtain⟨rfl,k,N,rfl,aw⟩:=hrel;by_cases ed:k=F
       ·by_cases aB:k<n
        ·have c3:=(aI.o _ C.o.k).at_ k aB;have z:V _:=lE (bt t k) wr;rw[zd aw.o (hO b6.o aB) ed]at z;subst ed;have aa:V _:=T.o;have c:V (i<=k/\k<=n):=⟨y.o.2,y.o.1⟩
         generalize bt t k=ah at c3 z;go_upto_region 24 with (go_at_call 116;refine yaj z.o ?_;rintro e aO ⟨rfl,an⟩;obtain rfl:=an.symm);clear c3 z;exact xbc
        subst ed;have aa:V _:=T.o;have c:V (i<=k/\k<=n):=⟨y.o.2,y.o.1⟩
        go_upto_region 24 with fail;exact xbc
       obtain⟨B,J,h3⟩:=Ga aw.o ed;have aB:k<n:=by rw[b6.o]at B;exact B
       have c3:=(aI.o _ C.o.k).at_ k aB;have z:V _:=lE (bt t k) wr;rw[J]at z;have U:V _:=h3;clear B J h3;generalize bt t k=ah at c3 z;go_wp2_with (go_at_call 116;refine yaj z.o ?_;rintro e aO ⟨rfl,an⟩;obtain rfl:=an.symm);exact xck
     have aa:V (Z=iG/\Y=j):=⟨P.o.trans (hF (λh=>l h.2.1)),u.o.trans (hF (λh=>l h.2.1))⟩
     have c:V (i<=j/\j<=n):=⟨aA.o.2,aA.o.1⟩
     have al:(ag==46)=false:=by simpa using l
     clear HD af u P l;exact xay
    have aa:V (Z=iG/\Y=j):=⟨P.o.trans (hF (λh=>hM b6.o)),u.o.trans (hF (λh=>hM b6.o))⟩
    have c:V (i<=j/\j<=n):=⟨aA.o.2,aA.o.1⟩
    clear HD af u P;exact xay
   subst ec;have aa:V (Z=iG/\Y=j):=⟨P.o.trans (hF (λh=>hM b6.o)),u.o.trans (hF (λh=>hM b6.o))⟩
   have c:V (i<=j/\j<=n):=⟨aA.o.2,aA.o.1⟩
   clear u P;go_upto_region 19 with fail;go_upto_region 24 with fail;exact xag
  obtain⟨B,J,h3⟩:=Ga ax.o ec;have aC:j<n:=by rw[b6.o]at B;exact B
  have c1:=(aI.o _ bi.o.k).at_ j aC;have HD:V _:=lE (bt t j) wr;rw[J]at HD;have U:V _:=h3;clear B J h3;generalize bt t j=ah at c1 HD;go_wp2_with (go_at_call 116;refine yaj HD.o ?_;rintro e aO ⟨rfl,an⟩;obtain rfl:=an.symm);exact xhm
def xv(x:UInt8)(k:Nat):List UInt8:=if x∈onesL.take k then[x] else[]
theorem Gc{x k}(N:k<10)(h:onesL.getD k 0=x):xv x (k+1)=[x]:=by
 unfold xv;rw[hG];have ab:k<onesL.length:=N;exact xjo
theorem DB{x k}(N:k<10)(h:onesL.getD k 0≠x):xv x (k+1)=xv x k:=by
 unfold xv;have ab:k<onesL.length:=N;exact xfv
abbrev onesS:ByteArray:={data:=#[43,45,42,47,40,41,44,59,58,61]}
theorem Ge:∀k:Fin 10,onesS.extract k.1 (k.1+1)=⟨#[onesL.getD k.1 0]⟩:=by decide+kernel
theorem Gf:∀k:Fin 10,∀h,((onesS[k.1]'h).toNat:Int)=bt onesL k.1:=by decide+kernel
theorem JE(k)(N:k<10)(h):((onesS[k]'h).toNat:Int)=bt onesL k:=Gf ⟨k,N⟩ h
theorem bM.qbu(h:Zp:=by
 have aH:V _:=λW k=>(aI.o W k).at_ i hi;generalize bt t i=bI at c0 ca O K aH
 go_upto_region 26 with (first
  |(go_at_call 138;refine yaj (ca.o _) ?_;rintro e aO ⟨rfl,an⟩;obtain rfl:=an.symm)
  |(go_at_call 116;refine yaj (O.o _) ?_;rintro e aO ⟨rfl,an⟩;obtain rfl:=an.symm))
 clear c0 ca O aI;go_wp2_with fail;go_loopw [11] (λaD W=>∃k:Nat,k<=10/\aD=hD k/\V (NI w W (xv az k) i (xv az k))) (λaD _=>10-(intOf aD).toNat)
 case atStart=>exact⟨0,by omega,rfl,bu⟩
 case round=>
  obtain⟨k,N,rfl,a6⟩:=hrel;by_cases l:k<10
  ·have c1:=aH.o _ a6.o.k
   have bO:V (onesL.getD k 0=az↔bt onesL k=bI):=by
    show _↔_;rw[K.o];unfold bt;constructor
    ·grind
    intro h;exact UInt8.toNat_inj.1 xaa
   have bX:∀h,_:=λh=>JE k l h;have ak:onesS.extract k (k+1)=⟨#[onesL.getD k 0]⟩:=Ge ⟨k,l⟩;generalize bt _ k=y at bO bX;go_upto_region 30 with fail;go_quiet (fail)
   have b0:V _:=a6.o.keep (eK 0 0 _ nq);clear c1 a6;generalize wr.drewN _=bj at b0⊢;have bb:=b0.o.t.c0;have aM:=b0.o.t.fr 0;have aQ:=b0.o.t.c2;have bY:=b0.o.t.fr 2;cases am:(y==bI)
   ·have aq:onesL.getD k 0≠az:=λc=>by have:=bO.o.1 c;rw[this]at am;simp at am
    have U:V _:=b0.o;rw[<-DB l aq]at U;clear b0 aq ak bb aM aQ bY;go_wp2_with fail;grind[intOf]
   have aq:=bO.o.2 (by simpa using am);have U:V _:=(b0.o.sym [az]).text [az];rw[aq]at ak;have C:=Gc l aq;have aa:V _:=C;have b7:V (eN [az]=.string _):=rfl;generalize xv _ k=aT at bb aQ b0;clear b0 aq C;have aN:IntKind.i64.wrap (k+1)=k+1:=by rw[IntKind.wrap_i64];omega
   have a2:(0:Int)<=k:=xaa;have bk:(k:Int)+1<=10:=xaa;go_wp2_with fail;go_roundw;exact⟨k+1,by omega,by go_num,hO aa.o U⟩;simp[intOf];omega
  obtain rfl:k=10:=xaa;have u:V _:=a6.o;rw[show xv _ _=lD _ from rfl]at u;generalize z:lD _=au at u;have be:V _:=z;clear z;obtain⟨_,bm,ay,aW,ae⟩:=u.o.r;obtain⟨_,bf,aP,aY,r⟩:=u.o.t;have bv:=ae 0;have bA:=ae 1;have bM:=ae 2;have U:V _:=u.o.fin;have aN:IntKind.i64.wrap (i+1)=i+1:=by rw[IntKind.wrap_i64];omega
  clear a6 ae r u;go_wp2_with fail;change bodyPost _ _ _ _ _ (((wr.setCell _ (eN _)).setCell _ _).setCell _ (eN _));generalize ((wr.setCell _ _).setCell _ _).setCell _ _=ci at U⊢;obtain⟨⟨_,bG,f1,f2,_⟩,m⟩:=U.o;refine yaz (v:=.tuple #[.agg #[eN au,hD i,eN au],hD ((i:Int)+1)]) (by simp[results,results114,go_sem,bG,f1,f2]) rfl ⟨?_,m⟩;rw[be.o,Int.natCast_add];rfl):Zp:=h
open bM in
theorem DC(w g off n cap t)(f:TxS w g off n t)(i)(hi:i<n)(hn:n<=1000000)(bJ:nY (bt t i)=false)(G:dig (bt t i)=false):
  Calls prog 114 #[.slice (some ⟨g,off,none⟩) n cap,hD i] w (NxO w (nxT t i) (nxE t i)):=by
 have aI:V (∀W,Kept 0 0 w W->_):=λW k=>f.keep k;have b1:V (nxT t i=⟨lD (t.getD i 0),i,lD (t.getD i 0)⟩):=by show _=_;unfold nxT;simp_all
 have HE:V (nxE t i=i+1):=by show _=_;unfold nxE;simp_all
 have aR:=f.lt;have ca:V (∀W,Calls _ _ _ W λe I=>e=.returned (.bool false)/\I=W):=λW=>by rw[<-bJ];exact oG _ W
 have O:V (∀W,Calls _ _ _ W λe I=>e=.returned (.bool false)/\I=W):=λW=>by rw[<-G];exact lE _ W
 have K:V (bt t i=((t.getD i 0).toNat:Int)):=rfl;unfold NxO;rw[b1.o,HE.o];clear b1 HE f bJ G;generalize t.getD i 0=az at K⊢;exact qbt
theorem M3(w g off n cap t)(f:TxS w g off n t)(i)(hi:i<n)(hn:n<=1000000)(aG:n<=cap):
  Calls prog 114 #[.slice (some ⟨g,off,none⟩) n cap,hD i] w (NxO w (nxT t i) (nxE t i)):=by
 cases bJ:nY (bt t i)
 ·cases G:dig (bt t i)
  ·exact DC w g _ n _ t f i hi hn bJ G
  exact Gb w g _ n _ t f i hi hn aG bJ G
 exact DA w g _ n _ t f i hi hn aG bJ
def tkc(k:Tok):List Value:=[eN k.sym,.int .i64 (k.pos:Int),eN k.text]
def tkF:List Tok->List Value
 |[]=>[]
 |k::r=>tkc k++tkF r
theorem JF(a b):tkF (a++b)=tkF a++tkF b:=by
 induction a<;>grind[tkF]
theorem JG(k):tkF [k]=tkc k:=by simp[tkF]
theorem Gg:∀(a:List Tok) (k j:Nat),k<a.length->j<3->(tkF a)[k*3+j]? =(tkc (a.getD k hJ))[j]?
 |x::r,0,j,_,hj=>by
  grind[tkF,tkc]
 |x::r,k+1,j,N,hj=>by
  have ak:(tkc x).length=3:=rfl
  rw[tkF,yas xaa,ak,show(k+1)*3+j-3=k*3+j by omega]
  exact Gg r k j (by grind) hj
def TR(W:World)(B:Nat)(v:Value)(ts:List Tok):Prop:=W.ownsRow B 92 3 v ts.length (tkF ts)
theorem TR.keep{W}(f:TR W R v ts)(k:Kept 0 0 W W'):TR W' R v ts:=eR f k
theorem TR.nil(W R):TR W R (.slice none 0 0) []:=yaw _ _ _ _
theorem TR.blk{W}(f:TR W R v ts)(h:v.ownBlock=some g):R<=g/\g<W.heap.size:=eH f h
structure TkA(w:World)(g off n:Nat)(ts:List Tok):Prop where
 len:ts.length=n
 lt:g<w.heap.size
 c0:∀k,k<n->w.cell? ⟨g,off+k*3,none⟩=some (eN (ts.getD k hJ).sym)
 c1:∀k,k<n->w.cell? ⟨g,off+k*3+1,none⟩=some (.int .i64 ((ts.getD k hJ).pos:Int))
 c2:∀k,k<n->w.cell? ⟨g,off+k*3+2,none⟩=some (eN (ts.getD k hJ).text)
theorem TR.at_{W}(f:TR W R v ts)(h:0<ts.length):∃g cap,v=hC g ts.length cap/\R<=g/\TkA W g 0 ts.length ts/\ts.length<=cap:=by
 rcases f.2 with⟨_,c⟩|⟨g,cap,H,rfl,O,ax,Z,_,cj,bG⟩
 ·omega
 have aR:g<W.heap.size:=by grind
 have au:∀k j,k<ts.length->j<3->W.cell? _=(tkc _)[j]?:=λk j N hj=>by
  rw[cell_of_row W g _ _ _ _ ax,<-Array.getElem?_toList]
  have:(H.toList.take (ts.length*3))[k*3+j]? =(tkF ts)[k*3+j]?:=by rw[bG]
  rw[List.getElem?_take_of_lt xaa]at this
  rw[this]
  exact Gg _ k j N hj
 refine⟨g,_,rfl,O,⟨rfl,aR,λk N=>?_,λk N=>?_,λk N=>?_⟩,Z⟩
 ·rw[Nat.zero_add];exact au k 0 N xaa
 ·rw[Nat.zero_add];exact au k 1 N xaa
 rw[Nat.zero_add];exact au k 2 N xaa
theorem M4:(prog.info? 92).map (λi=>(i.zero,i.size,i.bytes))=some (some (.agg #[.string ⟨#[]⟩,hD 0,.string ⟨#[]⟩]),3,40):=by kernel_rfl
theorem xw:∃b3,prog.info? 92=some b3/\b3.zero=some (.agg #[.string ⟨#[]⟩,hD 0,.string ⟨#[]⟩])/\b3.size=3/\b3.bytes=40:=by
 have h:=M4;simp_all
theorem ze(w:World)(k bl):∀j u,(tkc k)[j]? =some u->(w.alloc (.cells #[eN k.sym,hD k.pos,eN k.text] bl)).cell? ((⟨w.heap.size,0,none⟩:Addr).add j)=some u:=by
 intro j u h;rw[jX,Nat.zero_add,yav];match j,h with
 |0,h=>exact h
 |1,h=>exact h
 |2,h=>exact h
theorem oL(w)(X:o.guard=none)(s x)
  (al:o.op=.call {callee:=.builtin .append,args:=#[s,x],argTypes:=#[88,88]})
  (R) (v) (ts) (ar:a.eval s=v) (aZ:TR w R v ts)
  (ai) (k) (ak:a.eval x=.slice (some ai) 1 1) (f:∀j u,(tkc k)[j]? =some u->w.cell? (ai.add j)=some u)
  (C:ts.length+1<=1000000) (T:R<=w.heap.size)
  (h:∀g cap n I,n=(ts++[k]).length->TR I R (hC g n cap) (ts++[k])->Chg (λb=>v.ownBlock=some b) w I->(v.ownBlock=some g\/g=w.heap.size)->wpList prog br Q rest (a.put o.dst (hC g n cap)) I):wpList prog br Q (o::rest) a w:=by
 obtain⟨b3,hi,a6,b8,b5⟩:=xw;refine wpList_append_lies w X s x _ al R 92 _ _ 3 _ underlying88 hi a6 b8 b5 rfl xab v _ _ ar aZ _ 1 1 _ ak rfl f ?_ xab (by unfold maxLen;omega) xaa T _ rfl ?_
 ·intro u aH;simp[tkc]at aH;rcases aH with rfl|rfl|rfl<;>rfl
 intro g cap I B J h3 _;have e:ts.length+1=(ts++[k]).length:=by grind
 rw[e]at B⊢;refine h g _ _ _ rfl ?_ (ii J) h3;unfold TR;rw[JF,JG];exact B
theorem B6{W}(aS:w.heap.size<=R)(k:Kept 0 0 w W)(f:TR W R v ts)(c:Chg (λb=>v.ownBlock=some b) W W'):Kept 0 0 w W':=
 Chg.kept k c (λ_ hi=>yao aS (f.blk hi).1)
theorem Gh(w g off n cap t)(f:TxS w g off n t)(hn:n<=100000)(aG:n<=cap):
  Calls prog 67 #[.slice (some ⟨g,off,none⟩) n cap] w λe I=>∃v,e=.returned v/\TR I w.heap.size v (jC t)/\Kept 0 0 w I:=by
 have aI:V (∀W,Kept 0 0 w W->_):=λW k=>f.keep k;have au:V _:=FQ w g _ n cap t f 0 xaa xaa;have b6:V _:=f.len;have aX:V (skM t 0<=n):=by show _<=_;rw[<-f.len];exact xl t 0 yae
 clear f;obtain⟨A,aU⟩:∃A,A=jC t:=⟨_,rfl⟩
 rw[<-aU];have aa:V ([]++kV t _=A):=aU.symm;clear aU;go_enter func67,ntmps67;go_wp2_with (go_at_call 113;refine yaj au.o ?_;rintro e aO ⟨rfl,an⟩;obtain rfl:=an.symm);go_loopw [3,4] (λv aD W=>∃(k:Nat) (m:List Tok),k<=n/\m.length<=k/\aD=hD k/\V (TR W w.heap.size v m)/\V (Kept 0 0 w W)/\V (m++kV t k=A)) (λ_ aD _=>n-(intOf aD).toNat)
 case atStart=>exact⟨_,_,aX.o,yae,rfl,TR.nil _ _,Kept.refl 0 0 w,aa⟩
 case round=>
  obtain⟨k,m,N,u,rfl,C,aw,bh⟩:=hrel;by_cases aC:k<n
  ·have ad:k<t.length:=by rw[b6.o];exact aC
   have bn:V _:=M3 _ g _ n _ t (aI.o _ aw.o) k aC xaa aG;have aA:V (k<nxE t k/\nxE t k<=n/\nxE t k<=skM t _/\skM t _<=n):=⟨tR ad,by rw[<-b6.o];exact FN ad,pY _ _,by rw[<-b6.o];exact xl t _ (FN ad)⟩
   have q:V ((nxT t k).sym=[]->m++[nxT t k]=A):=λh=>by rw[<-bh.o,Dq ad h]
   have H:V ((nxT t k).sym≠[]->(m++[nxT t k])++kV t (skM t (nxE t k))=A):=λh=>by rw[<-bh.o,FP ad h];simp
   unfold NxO jc at bn;generalize nxT t k=K at bn q H;have cJ:V _:=λW ai=>FQ W g _ n cap t (aI.o W ai) _ aA.o.2.1 xaa;generalize nxE t k=ne at bn aA H cJ;generalize skM t _=y at aA H cJ;have r:V _:=λag:World=>ze ag K 92;obtain⟨aW,X,bF⟩:=K;simp only at bn q H r;clear bh ad
   go_wp2_with (first
    |(go_at_call 114;refine yaj bn.o ?_;rintro e ag ⟨rfl,ah⟩)
    |(at_builtin;refine oL _ rfl _ _ rfl _ _ _ rfl ((C.o.keep ah).keep ((ez 0 0 _ _).trans (ez 0 0 _ _))) _ ⟨aW,X,bF⟩ rfl ?c1 ?c2 ?c3 ?_)
    |fail)
   case c1=>
    have bP:=r.o (ag.alloc (.cells #[eN aW,hD X,eN bF] 92));rw[show(ag.alloc _).heap.size=ag.heap.size+1 by simp]at bP;exact bP
   case c2=>omega
   case c3=>have:=aw.o.size;have:=ah.size;simp;omega
   intro g9 cap9 n9 bg bJ bM bI bL;have R1:V _:=bM;have l:=(aw.o.trans ah).trans ((ez 0 0 _ (.cells #[eN aW,hD X,eN bF] 92)).trans (ez 0 0 _ (.cells #[eN aW,hD X,eN bF] 92)));have R2:V _:=B6 yad l ((C.o.keep ah).keep ((ez 0 0 _ _).trans (ez 0 0 _ _))) bI
   have z:bg.cell? ⟨ag.heap.size,0,none⟩=some (eN aW):=by
    rw[bI.cell yag (λc=>by have:=(C.o.blk c).2;have:=ah.size;simp at*;omega),(ez 0 0 _ _).cell xac xaa,yav];rfl
   clear bM bI bL bJ l;cases ar:(aW==[])
   ·have cf:aW≠[]:=by intro c;rw[c]at ar;simp at ar
    have R3:V _:=H.o cf;have bE:V _:=cJ.o _ R2.o;have b9:(m++[(⟨aW,X,bF⟩:Tok)]).length=m.length+1:=by simp
    clear cf;go_wp2_with (go_at_call 113;refine yaj bE.o ?_;rintro e F ⟨rfl,an⟩;obtain rfl:=an.symm);go_roundw
    case rel=>exact⟨_,_,aA.o.2.2.2,by rw[b9];have:=aA.o;omega,rfl,R1,R2,R3⟩
    case measure=>simp[intOf];have:=aA.o;omega
   have Z:aW=[]:=by simpa using ar
   have R3:V _:=q.o Z;rw[R3.o]at R1;clear Z;go_wp2_with fail;go_ret;exact⟨_,rfl,R1.o,R2.o⟩
  rw[Dp (hO b6.o aC),List.append_nil]at bh;obtain rfl:=bh.o;go_wp2_with fail;go_ret;exact⟨_,rfl,C.o,aw.o⟩
def WB(W:World)(B:Nat)(v:Value)(ss:List (List UInt8)):Prop:=W.ownsRow B 9 1 v ss.length (ss.map λl=>eN l)
theorem WB.keep{W}(f:WB W R v S)(k:Kept 0 0 W W'):WB W' R v S:=eR f k
theorem WB.blk{W}(f:WB W R v S)(h:v.ownBlock=some g):R<=g/\g<W.heap.size:=eH f h
theorem JH:(prog.info? 9).map (λi=>(i.zero,i.size,i.bytes))=some (some (.string ⟨#[]⟩),1,16):=by kernel_rfl
theorem uQ:∃b3,prog.info? 9=some b3/\b3.zero=some (.string ⟨#[]⟩)/\b3.size=1/\b3.bytes=16:=by
 have h:=JH;simp_all
def WC(w:World)(a:Addr)(ss:List (List UInt8)):Prop:=∀j x,ss[j]? =some x->w.cell? (a.add j)=some (eN x)
theorem WC.news{a}(h:WC w a S):∀j u,(S.map λl=>eN l)[j]? =some u->w.cell? (a.add j)=some u:=by
 intro j u aH;rw[List.getElem?_map]at aH;cases e:S[j]? with
 |none=>grind
 |some x=>rw[e]at aH;cases aH;exact h j x e
theorem WB.at_{W}(f:WB W R v S)(h:0<S.length):∃g cap,v=hC g S.length cap/\R<=g/\g<W.heap.size/\WC W ⟨g,0,none⟩ S/\S.length<=cap:=by
 have ad:=f;rcases f.2 with⟨_,c⟩|⟨g,cap,H,e,O,ax,Z,_,cj,bG⟩
 ·omega
 have aR:g<W.heap.size:=by grind
 refine⟨g,_,e,O,aR,λj x ak=>?_,Z⟩;subst e;exact World.ownsRow.cells ad rfl j _ (by grind)
theorem tY(w)(X:o.guard=none)(s x)
  (al:o.op=.call {callee:=.builtin .append,args:=#[s,x],argTypes:=#[100,100]})
  (R) (v) (S) (ar:a.eval s=v) (aZ:WB w R v S)
  (ai) (m c) (bT) (ak:a.eval x=.slice (some ai) m c) (ab:bT.length=m) (f:WC w ai bT)
  (aq:0<m) (C:S.length+m<=1000000) (T:R<=w.heap.size)
  (h:∀g cap n I,n=(S++bT).length->WB I R (hC g n cap) (S++bT)->Chg (λb=>v.ownBlock=some b) w I->(v.ownBlock=some g\/g=w.heap.size)->wpList prog br Q rest (a.put o.dst (hC g n cap)) I):wpList prog br Q (o::rest) a w:=by
 obtain⟨b3,hi,a6,b8,b5⟩:=uQ;refine wpList_append_lies w X s x _ al R 9 _ _ 1 _ underlying100 hi a6 b8 b5 rfl xab v _ _ ar aZ _ m c _ ak (by grind) f.news ?_ aq (by unfold maxLen;omega) xaa T _ rfl ?_
 ·intro u aH;obtain⟨x,_,rfl⟩:=List.mem_map.1 aH;rfl
 intro g cap I B J h3 _;have e:S.length+m=(S++bT).length:=by grind
 rw[e]at B⊢;refine h g _ _ _ rfl ?_ (ii J) h3;unfold WB;grind
