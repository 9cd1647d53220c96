import Derived.Test.YtcagphgmfbjneaaGreatP10
import Derived.Test.YtcagphgmfbjneaaGreatP03
namespace Go.Proofs.Z
variable{Zp:Prop}
open Tryz Go.RowKit Flt
set_option maxRecDepth 1000000
set_option maxHeartbeats 0
section
attribute[local go_sem] eE eD eC
variable{w B:World}{lo hi i n e:Nat}{b a:Option Addr}{S:Nat->Prop}{vs:List Vl}{xs:List Int}
theorem VS.at_idx(f:VS w lo hi a n vs)(h:i<n):∃g off,a=some ⟨g,off,none⟩/\g<w.heap.size/\g<hi/\lo<=g/\At w g (off+i*6) (vs.getD i h9):=by
 rcases f.at_ with z|⟨g,off,e,aR,bd,bu,bC⟩
 ·omega
 exact⟨g,_,e,bu,bd,aR,bC i h⟩
theorem VS.keepC(f:VS w lo hi a n vs)(k:Chg S w B)(aO:∀g,lo<=g->g<hi->¬S g):VS B lo hi a n vs:=
 ⟨f.len,f.lt,by
  rcases f.at_ with z|⟨g,off,e,aR,bd,bu,bC⟩
  ·exact .inl z
  ·refine .inr ⟨g,_,e,aR,bd,yak bu k.size,λj hj=>?_⟩
   have e:∀o,_:=λo=>k.cell (p:=⟨g,o,none⟩) bu (aO g aR bd)
   obtain⟨c0,c1,c2,c3,c4,c5⟩:=bC j hj
   exact⟨i1 e c0,i1 e c1,i1 e c2,i1 e c3,i1 e c4,i1 e c5⟩⟩
theorem IS.keepC(f:IS w lo hi a n xs)(k:Chg S w B)(aO:∀g,lo<=g->g<hi->¬S g):IS B lo hi a n xs:=
 ⟨f.len,by
  rcases f.at_ with z|⟨g,off,e,aR,bd,bu,bC⟩
  ·exact .inl z
  ·exact .inr ⟨g,_,e,aR,bd,yak bu k.size,λj hj=>by rw[k.cell bu (aO g aR bd)];exact bC j hj⟩⟩
theorem zD(op)(ak:0<=op)(F:op<=13)(w):Calls prog 19 #[h1 op] w λe B=>e=.returned (h1 (cnt op:Nat))/\w=B:=by
 have:=jr _ w ak F;rw[F2 ak F]at this;exact this.mono λ_ _ h=>⟨h.1,h.2.symm⟩
theorem cC.qcn(h:Zp:=by
 rw[k.block g aK (aO g (i4 af))];exact aV):Zp:=h
open cC in
theorem fe{base size v xs W H}(o:W.ownsRow base e size v n xs)(k:Chg S W H)(aO:∀g,v.ownBlock=some g->¬S g):H.ownsRow base e size v n xs:=by
 exact qcm
theorem fT{bM}(h:w.grownBy B bM):Chg (λb=>bM=some b) w B:=
 ⟨h.os,h.tape,h.output,h.size,λk O ag=>h.block k O (λc=>ag c.symm)⟩
theorem F4{outs:List Int}{k}(O:k<outs.length)(h:(outs.take k).any (λo=>o==(i:Int))=false)(t:(outs.getD k 0==(i:Int))=false):(outs.take (k+1)).any (λo=>o==(i:Int))=false:=by
 rw[yau O,List.any_append,h];exact xii
theorem cK.qct(h:Zp:=by
 have aD:V _:=f.keep ad yaa;have HL:V _:=f.len;have HK:V _:=ad;clear f ad;go_enter func118,ntmps118;go_wp2_with fail;generalize w.alloc (fx U Z c1 aV ae c2 aa ab c3)=aH at T aD HK⊢;go_loop [5] (λx=>∃k:Nat,k<=ab/\x=h1 k/\V ((outs.take k).any (λo=>o==(i:Int))=false)) (λx=>ab-(intOf x).toNat)
 case atStart=>exact⟨0,yae,rfl,rfl⟩
 case round=>
  obtain⟨k,O,rfl,be⟩:=hrel;obtain⟨_,aP,ay,aB⟩:=T.o;by_cases hlt:k<ab
  ·obtain⟨g,off,m,rfl,em,ao,aK,G⟩:=aD.o.at_idx (o:=k) xaa xaa;obtain rfl:k=m:=xaa;rw[Int.toNat_natCast]at G;cases t:(outs.getD k 0==(i:Int))
   ·have R:V _:=F4 (i1 HL.o hlt) be.o t;generalize outs.getD k 0=x at G t;exact xhi
   have R:V (isO outs i=true):=by
    show _=_;unfold isO;rw[List.any_eq_true];exact⟨outs.getD k 0,pr (i1 HL.o hlt),t⟩
   generalize outs.getD k 0=x at G t;clear be;go_wp2;go_ret;exact⟨i4 R.o,HK.o⟩
  obtain rfl:k=ab:=xaa
  have R:V (isO outs i=false):=by
   exact xib
  clear be;go_wp2;go_ret;exact⟨i4 R.o,HK.o⟩):Zp:=h
open cK in
theorem F5(w U aV aa Z c1 ae c2 ab c3 i lo hi outs)(f:IS w lo hi aa ab outs)(ag:ab<=1000000):
  Calls prog 118 #[eX U Z c1 aV ae c2 aa ab c3,h1 (i:Nat)] w λe B=>e=.returned (.bool (isO outs i))/\Kept 0 0 w B:=by
 exact qcs
theorem gZ{W:World}{I m c xs s}(h:W.ownsRow I e s (.slice a n c) m xs):n=m:=by
 obtain⟨b,d,e⟩:=iL h;injection e
theorem mD{P}(w){bW rest o a Q}(au:o.guard=none)(s x t)
  (ho:o.op=.call {callee:=.builtin .append,args:=#[s,x],argTypes:=#[t,t]})
  (base) (e) (i) (z) (size g) (ht:P.underlying t=some (.slice e)) (hi:P.info? e=some i) (a5:i.zero=some z)
  (r:i.size=size) (k:i.bytes=g) (v:z.cells.size=size) (b2:0<size) (aw:a.eval s=.slice none 0 0)
  (b) (m c) (d) (ap:a.eval x=.slice b m c) (ai:d.length=m*size) (y:(b=none/\m=0)\/∃av,b=some av/\∀j u,d[j]? =some u->w.cell? (av.add j)=some u) (F:∀u∈d,u.oneCell'=true)
  (f:m<=maxLen) (C:m*g<=140737488355328) (ae:base<=w.heap.size)
  (h:∀v' B,B.ownsRow base e size v' m d->w.grownBy B none->wpList P bW Q rest (a.put o.dst v') B):wpList P bW Q (o::rest) a w:=by
 rcases y with⟨rfl,rfl⟩|⟨av,rfl,ag⟩
 ·have l:=List.length_eq_zero_iff.1 (i3 ai);subst l
  have aF:(Builtin.append_ #[t,t] o.type #[.slice none 0 0,.slice none 0 c]).run P w=.ok (.slice none 0 0) w:=by
   simp[Builtin.append_,run_underlying ht,sizeOf,typeInfo,hi,Builtin.lenOf,run_firstCells_none]
  refine wpList_plain au λ_ aG=>?_;unfold Oper.wp execOp;simp only[ho,resolve,invoke,builtin,Sem.run_bind,Sem.run_pure,Result.andThen_ok,List.map_toArray,List.map_cons,List.map_nil,aw,ap,aF];exact aG _ _ (h _ _ (yaw w _ e _) ⟨rfl,rfl,rfl,yad,λ_ _ _=>rfl⟩)
 refine wpList_append_own w au s x t ho _ e i z _ _ ht hi a5 r k v b2 _ 0 _ aw (yaw w _ e _) _ m c _ ap ai ag F xaa (by grind) ae ?_;intro v' B ay aB _;rw[Nat.zero_add,List.nil_append]at ay;exact h _ _ ay aB
theorem iM(g off j):(⟨g,off,none⟩:Addr).add j=⟨g,off+j,none⟩:=by
 simp[Addr.add_lit]
theorem Q2(h:IS w lo hi b n xs):(b=none/\n=0)\/∃av,b=some av/\∀j u,(xs.map (Value.int .i64))[j]? =some u->w.cell? (av.add j)=some u:=by
 have ai:=h.len;rcases h.at_ with z|⟨g,off,rfl,_,_,_,al⟩
 ·subst z;have:=List.length_eq_zero_iff.1 ai;subst this;cases b<;>grind
 refine .inr ⟨_,rfl,λj u a6=>?_⟩;have hj:j<n:=by grind
 rw[iM,al j hj];simp_all
theorem Q3(h:VS w lo hi b n vs):(b=none/\n=0)\/∃av,b=some av/\∀j u,(fN vs)[j]? =some u->w.cell? (av.add j)=some u:=by
 have ai:=h.len;rcases h.at_ with z|⟨g,off,rfl,_,_,_,al⟩
 ·subst z;have:=List.length_eq_zero_iff.1 ai;subst this;cases b<;>grind[fN]
 refine .inr ⟨_,rfl,λj u a6=>?_⟩;have hj:j<n*6:=by grind[zv]
 have k:j=j/6*6+j%6:=xaa;have O:j/6<n:=xaa;rw[k,xG _ _ _ xaa xaa]at a6;rw[iM];obtain⟨c0,c1,c2,c3,c4,c5⟩:=al _ O;grind[Vl.cells]
theorem oG(w lo hi' b n c xs)(bv:n<=1000000)(h:IS w lo hi' b n xs):
  Calls prog 89 #[.slice b n c] w λe B=>∃a cap,e=.returned (.slice a n cap)/\B.ownsRow w.heap.size 3 1 (.slice a n cap) n (xs.map (Value.int .i64))/\Kept 0 0 w B:=by
 obtain⟨b1,hi,hz0,hz1,hz2⟩:=info_parts rZ;have HN:V _:=Q2 h;have HX:V _:=h.len;clear h;go_enter func89,ntmps89;go_wp2_with (first|(at_builtin;refine mD _ rfl _ _ _ rfl w.heap.size 3 _ _ 1 8 underlying23 hi hz0 hz1 hz2 rfl xab rfl b n c _ rfl ?c0 HN.o ?c2 ?c3 ?c4 ?c5 ?_))
 case c0=>rw[List.length_map,HX.o,Nat.mul_one]
 case c2=>intro u a6;obtain⟨x,_,rfl⟩:=List.mem_map.1 a6;rfl
 case c3=>unfold maxLen;omega
 case c4=>omega
 case c5=>omega
 intro v' bn bU bK;obtain⟨a,cap,rfl⟩:=iL bU;have R:V _:=iK bK (λk O=>by cases O) (Kept.refl 0 0 w) yad;have R2:V _:=bU;clear bU bK;go_wp2;go_ret;exact⟨a,_,rfl,R2.o,R.o⟩
end
section
variable{w B:World}{a:Option Addr}{P n cap i h:Nat}{bs:List Int}
abbrev eK(l:List UInt8):Value:=.string ⟨l.toArray⟩
theorem ul(a b:List UInt8):(⟨a.toArray⟩:ByteArray)++⟨b.toArray⟩=⟨(a++b).toArray⟩:=by
 apply ByteArray.ext;simp
def gM(n:Nat):List UInt8:=if n<10 then[UInt8.ofNat (48+n)]else gM (n/10)++gM (n%10)
termination_by n
decreasing_by all_goals omega
theorem ke(n):(gM n).length<=n+1:=by
 rw[gM];split
 ·simp
 rw[yal];have F:=ke (n/10);have h2:(gM (n%10)).length=1:=by rw[gM,h7 xaa];rfl
 omega
termination_by n
decreasing_by all_goals omega
theorem fO(l:List UInt8):(⟨l.toArray⟩:ByteArray).size=l.length:=by simp[ByteArray.size]
theorem JX:∀k:Fin 10,({data:=#[48,49,50,51,52,53,54,55,56,57]}:ByteArray).extract k.1 (k.1+1)=⟨#[UInt8.ofNat (48+k.1)]⟩:=by decide+kernel
theorem vP(n:Nat)(ag:n<10)(w):Calls prog 100 #[h1 n] w λe B=>e=.returned (eK (gM n))/\B=w:=by
 have aO:gM n=[UInt8.ofNat (48+n)]:=by rw[gM,h7 ag]
 have ap:({data:=#[48,49,50,51,52,53,54,55,56,57]}:ByteArray).extract n (n+1)=⟨(gM n).toArray⟩:=by rw[aO];exact JX ⟨n,ag⟩
 unfold eK;generalize (⟨(gM n).toArray⟩:ByteArray)=b at ap;have aS:(n:Int)<10:=xaa;have a9:IntKind.i64.wrap ((n:Int)+1)=(n:Int)+1:=by rw[IntKind.wrap_i64];omega
 have bV:0<=(n:Int):=xaa;clear aO;go_enter func100,ntmps100;go_wp2;go_ret;exact⟨rfl,rfl⟩
theorem zE:∀(N n:Nat),n<=N->n<=1000000->∀w:World,Calls prog 100 #[h1 n] w λe B=>e=.returned (eK (gM n))/\B=w:=by
 intro N;induction N with
 |zero=>
  intro n h _ w;exact vP n xaa w
 |succ N G=>
  intro n h hb w;by_cases ag:n<10
  ·exact vP n ag w
  have aO:gM n=gM (n/10)++gM (n%10):=by rw[gM,h6 ag]
  have H1:V (∀w:World,Calls prog 100 #[h1 ((n:Int)/10)] w λe B=>e=.returned (eK (gM (n/10)))/\B=w):=G (n/10) xaa xaa;have H2:V (∀w:World,Calls prog 100 #[h1 ((n:Int)%10)] w λe B=>e=.returned (eK (gM (n%10)))/\B=w):=G (n%10) xaa xaa;have aS:¬((n:Int)<10):=xaa;unfold eK at H1 H2⊢;rw[aO,<-ul]
  have a5:¬(9223372036854775807<(⟨(gM (n/10)).toArray⟩:ByteArray).size+(⟨(gM (n%10)).toArray⟩:ByteArray).size):=by
   rw[fO,fO];have:=ke (n/10);have:=ke (n%10);omega
  generalize (⟨(gM (n/10)).toArray⟩:ByteArray)=a at H1 a5;generalize (⟨(gM (n%10)).toArray⟩:ByteArray)=b at H2 a5;clear G aO;go_enter func100,ntmps100;go_wp2_with fail;refine yaj (H1.o w) ?_;rintro e aH ⟨rfl,rfl⟩;go_wp2_with fail;refine yaj (H2.o aH) ?_;rintro e am ⟨rfl,rfl⟩;go_wp2_with fail;go_ret;exact⟨rfl,rfl⟩
structure RdF(w:World)(P:Nat)(a:Option Addr)(n cap i:Nat)(bs:List Int):Prop where
 lt:P<w.heap.size
 c0:w.cell? ⟨P,0,none⟩=some (.slice a n cap)
 c1:w.cell? ⟨P,1,none⟩=some (.int .i64 (i:Int))
 fz:w.frozen? ⟨P,1,none⟩=false
 hi:i<=n
 small:n<=500
 ys:YS w a n bs
 ne:0<n->∀g off,a=some ⟨g,off,none⟩->g<P
theorem F6{xs}(f:YS w a n xs)(k:Kept P h w B)(ne:0<n->∀g off,a=some ⟨g,off,none⟩->g<P):YS B a n xs:=
 ⟨f.len,f.lt,f.at_.imp id λ⟨g,off,e,h3,h4⟩=>⟨g,off,e,yak h3 k.size,λj hj=>by rw[k.cell (p:=⟨g,off+j,none⟩) h3 (by have:=ne xaa g off e;show ¬(P<=g/\g<h);omega)];exact h4 j hj⟩⟩
theorem RdF.keep{l}(f:RdF w P a n cap i bs)(k:Kept l h w B)(aO:P<l\/h<=l):RdF B P a n cap i bs where
 lt:=yak f.lt k.size
 c0:=by rw[k.cell (p:=⟨P,0,none⟩) f.lt (by show ¬(l<=P/\P<h);omega)];exact f.c0
 c1:=by rw[k.cell (p:=⟨P,1,none⟩) f.lt (by show ¬(l<=P/\P<h);omega)];exact f.c1
 fz:=by rw[k.frozen (p:=⟨P,1,none⟩) f.lt (by show ¬(l<=P/\P<h);omega)];exact f.fz
 hi:=f.hi
 small:=f.small
 ys:=⟨f.ys.len,f.ys.lt,f.ys.at_.imp id λ⟨g,off,e,h3,h4⟩=>⟨g,off,e,yak h3 k.size,λj hj=>by rw[k.cell (p:=⟨g,off+j,none⟩) h3 (by have:=f.ne xaa g off e;show ¬(l<=g/\g<h);omega)];exact h4 j hj⟩⟩
 ne:=f.ne
def nv(bs:List Int)(i:Nat):Nat:=(bs.getD i 0).toNat
def ni(bs:List Int)(i:Nat):Nat:=if i<bs.length then i+1 else i
theorem fp(f:YS w a n bs)(i):nv bs i<256:=by
 unfold nv;by_cases h:i<bs.length
 ·have:=f.lt _ (List.getElem_mem h);rw[yai,yam h];show(bs[i]).toNat<256;omega
 rw[yai,List.getElem?_eq_none xaa];decide
theorem JY(f:RdF w P a n cap i bs)(hi:i<n):
  RdF (w.setCell ⟨P,1,none⟩ (h1 ((i:Int)+1))) P a n cap (i+1) bs/\Kept P (P+1) w (w.setCell ⟨P,1,none⟩ (h1 ((i:Int)+1)))/\(w.setCell ⟨P,1,none⟩ (h1 ((i:Int)+1))).heap.size=w.heap.size:=by
 have aj:Kept P (P+1) w (w.setCell ⟨P,1,none⟩ (h1 ((i:Int)+1))):=eU w ⟨P,1,none⟩ _ yac;exact⟨⟨by simpa using f.lt,by rw[World.cell?_setCell_other (h:=by simp)];exact f.c0,by rw[World.cell?_setCell_same (h:=f.c1)];rfl,by rw[World.frozen?_setCell];exact f.fz,hi,f.small,F6 f.ys aj f.ne,f.ne⟩,aj,by simp⟩
theorem iw(w P a n cap i bs)(f:RdF w P a n cap i bs):
  Calls prog 14 #[hZ P] w λe B=>e=.returned (h1 (nv bs i:Int))/\RdF B P a n cap (ni bs i) bs/\Kept P (P+1) w B/\B.heap.size=w.heap.size:=by
 have ak:=f.c0;have F:=f.c1;have ag:=f.small;have ai:=f.ys.len;by_cases hi:i<n
 ·have h2:=f.fz
  obtain⟨I,off,rfl,a7,ap⟩:∃I off,a=some ⟨I,off,none⟩/\I<w.heap.size/\w.cell? ⟨I,off+i,none⟩=some (.int .u8 (bs.getD i 0)):=by
   rcases f.ys.at_ with q|⟨g,off,e,h3,h4⟩
   ·omega
   exact⟨g,off,e,h3,h4 i hi⟩
  have hb:0<=bs.getD i 0/\bs.getD i 0<256:=by
   rw[yai,yam xaa];exact f.ys.lt _ (List.getElem_mem _)
  obtain⟨bz,cw⟩:=hb;have aN:(nv bs i:Int)=bs.getD i 0:=by unfold nv;omega
  have b:ni bs i=i+1:=by unfold ni;rw[h7 xaa]
  have aD:V _:=f;rw[aN,b];generalize bs.getD i 0=x at ap bz cw aN;clear f aN b a7;go_enter func14,ntmps14;go_wp2;go_quiet (fail)
  go_wp2;go_quiet (fail)
  go_wp2;go_ret;have ad:=eH P (P+1) w;obtain⟨aq,aT,b8⟩:=JY (aD.o.keep (eH 0 0 w _) yab) hi;exact⟨rfl,aq,(ad _).trans aT,b8⟩
 have aN:(nv bs i:Int)=0:=by
  unfold nv;rw[yai,List.getElem?_eq_none xaa];rfl
 have b:ni bs i=i:=by unfold ni;rw[h6 xaa]
 have aD:V _:=f;rw[aN,b];have hi:n<=i:=xaa;clear f aN b;go_enter func14,ntmps14;go_wp2;go_quiet (fail)
 go_wp2;go_ret;exact⟨rfl,aD.o.keep (eH 0 0 _ _) yab,eH _ _ _ _,rfl⟩
theorem F7(b w):
  Calls prog 63 #[.int .u64 b] w λe B=>e=.returned (.float .f64 b.toNat)/\B=w:=by
 have al:=Fx;go_enter func63,ntmps63;go_wp2;go_ret;exact⟨rfl,rfl⟩
end
section
attribute[local go_sem] eE eD
variable{S:Nat->Prop}
theorem qI(n):floatOfInt .f64 n<18446744073709551616:=by
 have:=floatOfInt_wf .f64 n;simpa[Lit.wf] using this
theorem se(n):IntKind.u64.wrap n<18446744073709551616:=by rw[IntKind.wrap_u64];omega
theorem NB(a b)(F:0<=a)(h2:a<18446744073709551616)(h3:0<=b)(h4:b<18446744073709551616):∃n:Nat,bits .or .u64 a b=(n:Int)/\n<18446744073709551616:=by
 refine⟨_,u64_or a b F h2 h3 h4,?_⟩;have:a.toNat|||b.toNat<2 ^ 64:=Nat.or_lt_two_pow xaa xaa
 simpa using this
theorem JZ(x):x%16<6\/(6<=x%16/\x%16<9)\/x%16=9\/x%16=10\/x%16=11\/x%16=12\/x%16=13\/x%16=14\/x%16=15:=xaa
theorem sZ(w H:World)(xs T)(k:Chg S (w.alloc (.cells xs T)) H)(a2:¬S w.heap.size):(∀o,H.cell? ⟨w.heap.size,o,none⟩=xs[o]?)/\(∀o,H.frozen? ⟨w.heap.size,o,none⟩=false)/\w.heap.size<H.heap.size:=by
 have F:w.heap.size<(w.alloc (.cells xs T)).heap.size:=by simp
 refine⟨λo=>?_,λo=>?_,yak F k.size⟩
 ·rw[k.cell F a2,yav]
 rw[k.frozen F a2];simp_all
theorem Cx(w a n m cap xs)(h:YS w a n xs)(ao:m<=n)(co:m<=500)(ap:(xs.take 500).length=m)(T):
  RdF (w.alloc (.cells #[.slice a m cap,h1 0] T)) w.heap.size a m cap 0 (xs.take 500):=by
 have hb:=sZ (S:=λ_=>False) w _ #[.slice a m cap,h1 0] T (iv).chg (λc=>c);refine⟨hb.2.2,hb.1 0,hb.1 1,hb.2.1 1,yae,co,⟨ap,λx q=>h.lt x (List.mem_of_mem_take q),?_⟩,?_⟩
 ·rcases h.at_ with q|⟨g,off,e,h3,h4⟩
  ·omega
  refine .inr ⟨g,off,e,yak h3 (eA 0 0 w _).size,λk O=>?_⟩;rw[(eA 0 0 w _).cell (p:=⟨g,off+k,none⟩) h3 xaa,h4 k xaa];grind
 intro ak g off e;rcases h.at_ with q|⟨aC,cx,a2,h3,h4⟩<;>grind
theorem ND(w a n cap xs)(h:YS w a n xs)(al:n<=cap):
  Calls prog 13 #[.slice a n cap] w λe B=>e=.returned (hZ w.heap.size)/\(∃m,RdF B w.heap.size a m cap 0 (xs.take 500))/\Kept 0 0 w B:=by
 have ai:=h.len;by_cases ag:n<=500
 ·have ad:V _:=Cx w a n n cap xs h yad ag (by grind) 83;have HK:V _:=eA 0 0 w (.cells #[.slice a n cap,h1 0] 83);clear h;go_enter func13,ntmps13;go_wp2;go_ret;exact⟨rfl,⟨n,ad.o⟩,HK.o⟩
 obtain⟨x,rfl⟩:∃x,a=some x:=by
  rcases h.at_ with q|⟨g,off,e,_⟩<;>grind
 have ad:V _:=Cx w (some x) n 500 cap xs h xaa yad (by grind) 83;have HK:V _:=eA 0 0 w (.cells #[.slice (some x) 500 cap,h1 0] 83);have aC:500<=cap:=xaa;have ag:500<n:=xaa;clear h;go_enter func13,ntmps13;go_wp2;go_ret;exact⟨rfl,⟨500,ad.o⟩,HK.o⟩
theorem nC{w B P a n cap i bs}(f:RdF w P a n cap i bs)(k:Chg S w B)(a2:∀b,S b->P<b):RdF B P a n cap i bs where
 lt:=yak f.lt k.size
 c0:=by rw[k.cell (p:=⟨P,0,none⟩) f.lt (λc=>Nat.lt_irrefl _ (a2 _ c))];exact f.c0
 c1:=by rw[k.cell (p:=⟨P,1,none⟩) f.lt (λc=>Nat.lt_irrefl _ (a2 _ c))];exact f.c1
 fz:=by rw[k.frozen (p:=⟨P,1,none⟩) f.lt (λc=>Nat.lt_irrefl _ (a2 _ c))];exact f.fz
 hi:=f.hi
 small:=f.small
 ys:=⟨f.ys.len,f.ys.lt,f.ys.at_.imp id λ⟨g,off,e,h3,h4⟩=>⟨g,off,e,yak h3 k.size,λj hj=>by rw[k.cell (p:=⟨g,off+j,none⟩) h3 (λc=>by have bK:P<g:=a2 _ c;have:=f.ne xaa g off e;omega)];grind⟩⟩
 ne:=f.ne
theorem jk{W H p bL U aV}(t:RB W p bL U aV)(c:Chg S W H)(aQ:¬S p):RB H p bL U aV:=
 have e:∀o,H.cell? ⟨p,o,none⟩=W.cell? ⟨p,o,none⟩:=λo=>c.cell (p:=⟨p,o,none⟩) t.sz aQ
 have x:∀o,H.frozen? ⟨p,o,none⟩=W.frozen? ⟨p,o,none⟩:=λo=>c.frozen (p:=⟨p,o,none⟩) t.sz aQ
 ⟨yak t.sz c.size,i1 e t.q0,i1 e t.q1,i1 e t.q2,i1 x t.f0,i1 x t.f1,i1 x t.f2⟩
end
section
attribute[local go_sem] eE eD eC
variable{w H:World}{bW:Array Oper}{rest:List Oper}{p off I j g o i:Nat}{s x:List UInt8}{v:Value}{ss:List (List UInt8)}{ts:List Tok}{Q:Exit->Act->World->Prop}
theorem F8{t k}(O:k<j-i):bt (kN t i j) k=bt t (i+k):=by
 simp_all[bt,kN]
def gU(t:List UInt8):List Int:=t.map λb=>(b.toNat:Int)
theorem rF(t k)(h:k<t.length):(gU t).getD k 0=bt t k:=by
 simp_all[gU,bt]
theorem F9(t):strOfNums (gU t)=⟨t.toArray⟩:=by
 simp_all[strOfNums,gU,List.map_congr_left]
theorem ki{n t}(f:TxS w g off n t)(c):(convert 22 9 (.slice (some ⟨g,off,none⟩) n c)).run prog w=.ok (eK t) w:=by
 have hb:prog.underlying 5=some (.int .u8):=by kernel_rfl
 have aw:prog.underlying 9=some .string:=by kernel_rfl
 have h:=run_convert_bytes_arg w 22 5 underlying22 hb g _ n c (gU t) (by unfold gU;rw[List.length_map];exact f.len) (λk O=>by rw[rF t k (i1 f.len O)];exact f.at_ k O) 9 aw;rw[F9]at h;exact h
theorem TxS.cut{n t}(f:TxS w g off n t)(hj:j<=n):TxS w g (off+i) (j-i) (kN t i j):=
 ⟨zd (i1 f.len hj),f.lt,λk O=>by
  rw[F8 O,Nat.add_assoc]
  exact f.at_ _ xaa⟩
def oH:Array Value:=(keysL.map λl=>eK l).toArray
theorem Ga(w):Calls prog 120 #[] w λe B=>e=.returned (h0 w.heap.size 15 15)/\w.alloc (.cells oH 9)=B:=by
 go_enter func120,ntmps120;go_wp2;go_ret;exact⟨rfl,rfl⟩
def iT(k:Tok):Value:=.agg #[eK k.sym,.int .i64 (k.pos:Int),eK k.text]
def NxO(w:World)(k:Tok)(j:Nat)(e:Ending)(w':World):Prop:=e=.returned (.tuple #[iT k,.int .i64 (j:Int)])/\Kept 0 0 w w'
structure TB(W:World)(p:Nat)(s:List UInt8)(k:Nat)(x:List UInt8):Prop where
 lt:p<W.heap.size
 c0:W.cell? ⟨p,0,none⟩=some (eK s)
 c1:W.cell? ⟨p,1,none⟩=some (.int .i64 (k:Int))
 c2:W.cell? ⟨p,2,none⟩=some (eK x)
 fr:∀o,W.frozen? ⟨p,o,none⟩=false
theorem TB.keep{W k}(h:TB W p s k x)(q:Kept 0 0 W H):TB H p s k x:=
 ⟨yak h.lt q.size,(q.cell (p:=⟨p,0,none⟩) h.lt xaa).trans h.c0,(q.cell (p:=⟨p,1,none⟩) h.lt xaa).trans h.c1,(q.cell (p:=⟨p,2,none⟩) h.lt xaa).trans h.c2,λo=>(q.frozen (p:=⟨p,o,none⟩) h.lt xaa).trans (h.fr o)⟩
theorem TB.sym{W k}(h:TB W p s k x)(z):TB (W.setCell ⟨p,0,none⟩ (eK z)) p z k x:=
 ⟨by simpa using h.lt,fy _ _ _ _ _ h.c0,(eV _ _ _ _ _ _ (.inr xaa)).trans h.c1,(eV _ _ _ _ _ _ (.inr xaa)).trans h.c2,λo=>by simp[h.fr o]⟩
theorem TB.text{W k}(h:TB W p s k x)(z):TB (W.setCell ⟨p,2,none⟩ (eK z)) p s k z:=
 ⟨by simpa using h.lt,(eV _ _ _ _ _ _ (.inr xaa)).trans h.c0,(eV _ _ _ _ _ _ (.inr xaa)).trans h.c1,fy _ _ _ _ _ h.c2,λo=>by simp[h.fr o]⟩
theorem TB.posn{W k}(h:TB W p s k x)(z:Nat):TB (W.setCell ⟨p,1,none⟩ (h1 z)) p s z x:=
 ⟨by simpa using h.lt,(eV _ _ _ _ _ _ (.inr xaa)).trans h.c0,fy _ _ _ _ _ h.c1,(eV _ _ _ _ _ _ (.inr xaa)).trans h.c2,λo=>by simp[h.fr o]⟩
theorem TB.other{W q k}(h:TB W p s k x)(aA:q≠p):TB (W.setCell ⟨q,o,none⟩ v) p s k x:=
 ⟨by simpa using h.lt,(eV _ _ _ _ _ _ (.inl aA)).trans h.c0,(eV _ _ _ _ _ _ (.inl aA)).trans h.c1,(eV _ _ _ _ _ _ (.inl aA)).trans h.c2,λo=>by simp[h.fr o]⟩
theorem gV(w:World)(s)(k:Nat)(x):TB (w.alloc (.cells #[eK s,h1 k,eK x] 137)) w.heap.size s k x:=
 ⟨by simp,by rw[yav];rfl,by rw[yav];rfl,by rw[yav];rfl,λo=>World.frozen?_alloc_at _ _ w.heap.size o rfl⟩
theorem oI{W}(k:Kept 0 0 w W)(h:w.heap.size<=p):Kept 0 0 w (W.setCell ⟨p,o,none⟩ v):=
 Chg.kept (S:=λi=>i=p) k ((eU (lo:=p) (hi:=p+1) W ⟨p,o,none⟩ v yac).chg1 rfl) (λi hi=>by omega)
structure NI(w W:World)(s:List UInt8)(k:Nat)(x:List UInt8):Prop where
 r:TB W w.heap.size [] 0 []
 t:TB W (w.heap.size+1) s k x
 k:Kept 0 0 w W
theorem NI.keep{W k}(h:NI w W s k x)(q:Kept 0 0 W H):NI w H s k x:=⟨h.r.keep q,h.t.keep q,h.k.trans q⟩
theorem NI.sym{W k}(h:NI w W s k x)(z):NI w (W.setCell ⟨w.heap.size+1,0,none⟩ (eK z)) z k x:=⟨h.r.other xaa,h.t.sym z,oI h.k xaa⟩
theorem NI.text{W k}(h:NI w W s k x)(z):NI w (W.setCell ⟨w.heap.size+1,2,none⟩ (eK z)) s k z:=⟨h.r.other xaa,h.t.text z,oI h.k xaa⟩
theorem Bv(w)(i:Nat):NI w ((w.alloc (.cells #[eK [],h1 (0:Nat),eK []] 137)).alloc (.cells #[eK [],h1 i,eK []] 137)) [] i []:=by
 refine⟨(gV w _ 0 _).keep (eA 0 0 _ _),?_,(eA 0 0 w _).trans (eA 0 0 _ _)⟩;have h:=gV (w.alloc (.cells #[eK [],h1 (0:Nat),eK []] 137)) [] i [];simp_all
theorem NI.fin{W k}(h:NI w W s k x):TB (((W.setCell ⟨w.heap.size,0,none⟩ (eK s)).setCell ⟨w.heap.size,1,none⟩ (h1 k)).setCell ⟨w.heap.size,2,none⟩ (eK x)) w.heap.size s k x/\Kept 0 0 w (((W.setCell ⟨w.heap.size,0,none⟩ (eK s)).setCell ⟨w.heap.size,1,none⟩ (h1 k)).setCell ⟨w.heap.size,2,none⟩ (eK x)):=
 ⟨((h.r.sym s).posn k).text x,oI (oI (oI h.k yad) yad) yad⟩
def sf(s:List UInt8)(k:Nat):List UInt8:=if s∈keysL.take k then s else gH
theorem Gb(W aH:World)(k)(O:k<15)(h:Kept 0 0 (aH.alloc (.cells oH 9)) W):W.cell? ⟨aH.heap.size,k,none⟩=some (eK (keysL.getD k [])):=by
 rw[h.cell xac xaa,yav];have ai:k<keysL.length:=O;show oH[k]? =_;unfold oH;simp_all
theorem DH{k}(O:k<15)(h:keysL.getD k []=s):sf s (k+1)=s:=by
 unfold sf;rw[h7];have ai:k<keysL.length:=O;exact xjc
theorem Bw{k}(O:k<15)(h:keysL.getD k []≠s):sf s (k+1)=sf s k:=by
 unfold sf;have ai:k<keysL.length:=O;exact xfz
theorem Gc{t}(F:j<t.length):gJ qu t j=if nZ (bt t j)=true\/dig (bt t j)=true then gJ qu t (j+1)else j:=by
 grind[xy,qu,ph]
structure KI(w W:World)(B:Nat)(x:List UInt8)(i k:Nat):Prop where
 n:NI w W (sf x k) i x
 lt:B<W.heap.size
 ne:w.heap.size+1<B
 c:∀q,q<15->W.cell? ⟨B,q,none⟩=some (eK (keysL.getD q []))
theorem Ge{W}(h:NI w W gH i x):KI w (W.alloc (.cells oH 9)) W.heap.size x i 0:=
 ⟨h.keep (eA 0 0 W _),by simp,h.t.lt,λq aA=>Gb _ W q aA iv⟩
theorem KI.keep{W k}(h:KI w W I x i k)(q:Kept 0 0 W H):KI w H I x i k:=
 ⟨h.n.keep q,yak h.lt q.size,h.ne,λj hj=>(q.cell (p:=⟨I,j,none⟩) h.lt xaa).trans (h.c j hj)⟩
theorem KI.hit{W k}(h:KI w W I x i k)(O:k<15)(e:keysL.getD k []=x):KI w (W.setCell ⟨w.heap.size+1,0,none⟩ (eK x)) I x i (k+1):=by
 refine⟨?_,by simpa using h.lt,h.ne,λj hj=>(eV _ _ _ _ _ _ (.inl (ix h.ne))).trans (h.c j hj)⟩;rw[DH O e];exact h.n.sym x
theorem KI.miss{W k}(h:KI w W I x i k)(O:k<15)(e:keysL.getD k []≠x):KI w W I x i (k+1):=by
 refine⟨?_,h.lt,h.ne,h.c⟩;rw[Bw O e];exact h.n
theorem bN.qca(h:Zp:=by
 go_wp2_with (go_at_call 119;refine yaj (aQ.o _) ?_;rintro e aH ⟨rfl,rfl⟩);clear c0;rename World=>W0
 go_loopw [7] (λS W=>W=W0/\∃j:Nat,j<=n/\S=h1 j/\V (gJ qu t j=E)) (λS _=>n-(intOf S).toNat)
 case atStart=>grind
 case round=>
  obtain⟨rfl,j,hj,rfl,m⟩:=hrel;by_cases d2:j=E
  ·subst d2;by_cases hlt:j<n
   ·have c1:=(aD.o _ HN.o.k).at_ j hlt;have bE:V _:=m.o;rw[Gc (i1 N.o hlt)]at bE;have HD:V _:=lr (bt t j) wr;have b:V _:=oB (bt t j) wr
    have z:¬(nZ _=true\/dig _=true):=λh=>by
     have F:=bE.o
     rw[h7 h]at F
     have:=m8 qu t (j+1)
     omega
    have ah:nZ (bt t j)=false:=by grind
    have J:dig (bt t j)=false:=by grind
    rw[ah]at b;rw[J]at HD;clear z ah J bE;generalize bt t j=x at c1 HD b
    go_upto_region 6 with (first
     |(go_at_call 119;refine yaj b.o ?_;rintro e aH ⟨rfl,X⟩;obtain rfl:=X.symm)
     |(go_at_call 110;refine yaj HD.o ?_;rintro e aH ⟨rfl,X⟩;obtain rfl:=X.symm))
    clear c1 HD b;have bf:V _:=ki ((aD.o _ HN.o.k).cut (i:=i) T.o.1) (cap-i);have ab:=T.o.2;have bP:(0:Int)<=i:=xaa;have aR:(i:Int)<=j:=xaa;have bd:(j:Int)<=cap:=xaa;have af:((j:Int)-i).toNat=j-i:=xaa;have y2:=HN.o.t.c2;have y3:=HN.o.t.fr 2;have al:=bf.o;go_upto_region 7 with fail;change Code.wp _ _ _ _ (wr.setCell _ (eK _));have d:V _:=HN.o.text (kN t i j);clear bf al y2 y3 ab bP aR bd af;generalize wr.setCell _ _=ax at d⊢;generalize ap:kN t i j=x at d⊢;have HX:V _:=ap;clear ap;have y2:=d.o.t.c0;have y3:=d.o.t.fr 0;go_upto_region 8 with fail;change Code.wp _ _ _ _ (ax.setCell _ (eK gH));have C:V _:=d.o.sym gH;clear y2 y3 d;generalize ax.setCell _ _=bo at C⊢;go_upto_region 9 with (go_at_call 120;refine yaj (Ga _) ?_;rintro e aU ⟨rfl,rfl⟩);have aO:V _:=Ge C.o;generalize bo.alloc _=aU at aO⊢;generalize bo.heap.size=I at aO⊢;clear C;go_wp2_with fail;go_loopw [9] (λS W=>∃k:Nat,k<=15/\S=h1 k/\V (KI w W I x i k)) (λS _=>15-(intOf S).toNat)
    case atStart=>exact⟨0,by omega,rfl,aO⟩
    case round=>
     exact xar
   go_upto_region 6 with fail;have bf:V _:=ki ((aD.o _ HN.o.k).cut (i:=i) T.o.1) (cap-i);have ab:=T.o.2;have bP:(0:Int)<=i:=xaa;have aR:(i:Int)<=j:=xaa;have bd:(j:Int)<=cap:=xaa;have af:((j:Int)-i).toNat=j-i:=xaa;have y2:=HN.o.t.c2;have y3:=HN.o.t.fr 2;have al:=bf.o;go_upto_region 7 with fail;change Code.wp _ _ _ _ (wr.setCell _ (eK _));have d:V _:=HN.o.text (kN t i j);clear bf al y2 y3 ab bP aR bd af;generalize wr.setCell _ _=ax at d⊢;generalize ap:kN t i j=x at d⊢;have HX:V _:=ap;clear ap;have y2:=d.o.t.c0;have y3:=d.o.t.fr 0;go_upto_region 8 with fail;change Code.wp _ _ _ _ (ax.setCell _ (eK gH));have C:V _:=d.o.sym gH;clear y2 y3 d;generalize ax.setCell _ _=bo at C⊢;go_upto_region 9 with (go_at_call 120;refine yaj (Ga _) ?_;rintro e aU ⟨rfl,rfl⟩);have aO:V _:=Ge C.o;generalize bo.alloc _=aU at aO⊢;generalize bo.heap.size=I at aO⊢;clear C;go_wp2_with fail;go_loopw [9] (λS W=>∃k:Nat,k<=15/\S=h1 k/\V (KI w W I x i k)) (λS _=>15-(intOf S).toNat)
   case atStart=>grind
   case round=>
    exact xar
  have hlt:j<n:=by
   rcases Nat.lt_or_ge j n with c|c
   ·exact c
   exact absurd ((ph (λh=>ix N.o)).symm.trans m.o) d2
  have c1:=(aD.o _ HN.o.k).at_ j hlt;have bE:V _:=m.o;rw[Gc (i1 N.o hlt)]at bE;have HD:V _:=lr (bt t j) wr;have b:V _:=oB (bt t j) wr;generalize bt t j=x at c1 HD b bE;cases ah:nZ x
  ·rw[ah]at b bE;cases J:dig x
   ·rw[J]at bE;exact absurd (by simpa using bE.o) d2
   rw[J]at HD bE;have R:V (gJ qu t (j+1)=E):=by grind
   go_wp2_with (first
    |(go_at_call 119;refine yaj b.o ?_;rintro e aH ⟨rfl,rfl⟩)
    |(go_at_call 110;refine yaj HD.o ?_;rintro e aH ⟨rfl,rfl⟩))
   grind[intOf]
  rw[ah]at b bE;have R:V (gJ qu t (j+1)=E):=by grind
  go_wp2_with (first
   |(go_at_call 119;refine yaj b.o ?_;rintro e aH ⟨rfl,rfl⟩))
  grind[intOf]):Zp:=h
open bN in
theorem DI(w g off n cap t)(f:TxS w g off n t)(i)(hi:i<n)(ag:n<=1000000)(aW:n<=cap)(bV:nZ (bt t i)=true):
  Calls prog 108 #[.slice (some ⟨g,off,none⟩) n cap,h1 i] w (NxO w (nxT t i) (nxE t i)):=by
 have aD:V (∀W,Kept 0 0 w W->_):=λW k=>f.keep k;have bI:V (nxT t i=⟨_,i,_⟩):=h7 bV;have HE:V (nxE t i=gJ _ t i):=h7 bV;have T:V (gJ qu t i<=n/\i<=gJ qu t i):=⟨by rw[<-f.len];exact lL _ _ _ (i3 f.len),m8 _ _ _⟩
 have N:V _:=f.len;have aK:=f.lt;have aQ:V (∀W,Calls _ _ _ W λe B=>e=.returned (.bool true)/\B=W):=λW=>by rw[<-bV];exact oB _ W
 unfold NxO;rw[bI.o,HE.o];obtain⟨E,bU⟩:∃E,E=gJ qu t i:=⟨_,rfl⟩
 rw[<-bU]at T⊢;have HR:V _:=bU.symm;clear bU bI HE f bV;exact qbz
theorem zG{t E}(h:gJ dig t j=E)(hj:j<t.length)(Y:j=E):dig (bt t j)=false:=by
 subst Y;cases c:dig (bt t j)
 ·rfl
 have:=pi hj c;omega
theorem Gf{t E}(h:gJ dig t j=E)(Y:j≠E):j<t.length/\dig (bt t j)=true/\gJ dig t (j+1)=E:=by
 have F:=h;rw[gJ]at F;split at F
 ·rename_i c;exact⟨c.1,c.2,F⟩
 exact absurd F Y
theorem Gg(w g off n cap t)(f:TxS w g off n t)(i)(hi:i<n)(ag:n<=1000000)(aW:n<=cap)(bV:nZ (bt t i)=false)(aO:dig (bt t i)=true):
  Calls prog 108 #[.slice (some ⟨g,off,none⟩) n cap,h1 i] w (NxO w (nxT t i) (nxE t i)):=by
 have aD:V (∀W,Kept 0 0 w W->_):=λW k=>f.keep k;have bI:V (nxT t i=⟨tS t i,i,kN t i (sH t i)⟩):=by show _=_;unfold nxT;rw[bV,h6 xac,h7 aO]
 have HE:V (nxE t i=sH t i):=by show _=_;unfold nxE;rw[bV,h6 xac,h7 aO]
 have T:V (gJ dig t i<=n/\i<=gJ dig t i):=⟨by rw[<-f.len];exact lL _ _ _ (i3 f.len),m8 _ _ _⟩
 have N:V _:=f.len;have aK:=f.lt;have aQ:V (∀W,Calls _ _ _ W λe B=>e=.returned (.bool false)/\B=W):=λW=>by rw[<-bV];exact oB _ W
 have U:V (∀W,Calls _ _ _ W λe B=>e=.returned (.bool true)/\B=W):=λW=>by rw[<-aO];exact lr _ W
 have u:V (sH t i=if gJ _ t i+1<t.length/\bt t _=46/\dig _=true then gJ _ t _ else gJ _ t i):=rfl;have av:V (tS t i=if gJ _ t i+1<t.length/\bt t _=46/\dig _=true then kO else ik):=rfl;unfold NxO;rw[bI.o,HE.o];obtain⟨E,bU⟩:∃E,E=gJ dig t i:=⟨_,rfl⟩
 rw[<-bU]at T u av;have HR:V _:=bU.symm;clear bU bI HE f bV aO;generalize sH t i=P at u⊢;generalize tS t i=Z at av⊢;go_enter func108,ntmps108;go_upto_region 3 with fail;have HN:V _:=Bv w i;change Code.wp _ _ _ _ ((w.alloc (.cells #[eK _,.int _ _,eK _] 137)).alloc (.cells #[eK _,h1 _,eK _] 137));generalize (w.alloc _).alloc _=W0 at HN⊢;have c0:=(aD.o _ HN.o.k).at_ i hi;generalize bt t i=bF at c0 aQ U
 go_upto_region 16 with (first
  |(go_at_call 119;refine yaj (aQ.o _) ?_;rintro e aH ⟨rfl,X⟩;obtain rfl:=X.symm)
  |(go_at_call 110;refine yaj (U.o _) ?_;rintro e aH ⟨rfl,X⟩;obtain rfl:=X.symm))
 have y2:=HN.o.t.c0;have y3:=HN.o.t.fr 0;go_upto_region 17 with fail;change Code.wp _ _ _ _ (W0.setCell _ (eK ik));have C:V _:=HN.o.sym ik;clear y2 y3 HN c0;generalize W0.setCell _ _=bo at C⊢;go_loopw [7] (λS W=>W=bo/\∃j:Nat,j<=n/\S=h1 j/\V (gJ dig t j=E)) (λS _=>n-(intOf S).toNat)
 case atStart=>exact⟨rfl,i,by omega,rfl,HR⟩
 case round=>
  obtain⟨rfl,j,hj,rfl,m⟩:=hrel;by_cases d2:j=E
  ·by_cases hlt:j<n
   ·have c1:=(aD.o _ C.o.k).at_ j hlt;have HD:V _:=lr (bt t j) wr;rw[zG m.o (i1 N.o hlt) d2]at HD;subst d2;generalize aa:bt t j=ad at c1 HD u av;go_upto_region 19 with (go_at_call 110;refine yaj HD.o ?_;rintro e aH ⟨rfl,X⟩;obtain rfl:=X.symm);by_cases ci:j+1<n
    ·by_cases l:ad=46
     ·have G:V _:=lr (bt t (j+1)) wr;have c2:=(aD.o _ C.o.k).at_ _ ci;subst l;cases K:dig (bt t (j+1))
      ·have bO:V (Z=ik/\P=j):=⟨av.o.trans (h6 (λh=>by rw[K]at h;exact absurd h.2.2 xac)),u.o.trans (h6 (λh=>by rw[K]at h;exact absurd h.2.2 xac))⟩
       have b:V (i<=j/\j<=n):=⟨T.o.2,T.o.1⟩
       rw[K]at G;clear HD aa K u av;generalize bt t _=ai at c2 G;go_upto_region 24 with (go_at_call 110;refine yaj G.o ?_;rintro e aH ⟨rfl,X⟩;obtain rfl:=X.symm);clear c1 c2 G;exact xag
      have Y:V (Z=kO/\P=gJ _ t _):=⟨av.o.trans (h7 ⟨i1 N.o ci,rfl,K⟩),u.o.trans (h7 ⟨i1 N.o ci,rfl,K⟩)⟩
      rw[K]at G;clear HD aa K u av;generalize bt t _=ai at c2 G;go_upto_region 20 with (go_at_call 110;refine yaj G.o ?_;rintro e aH ⟨rfl,X⟩;obtain rfl:=X.symm);clear c1 c2 G;have y2:=C.o.t.c0;have y3:=C.o.t.fr 0;go_upto_region 21 with fail;change Code.wp _ _ _ _ (wr.setCell _ (eK kO));have J:V _:=C.o.sym kO;clear y2 y3 C;generalize wr.setCell _ _=aU at J⊢;have y:V (gJ dig t (j+1)<=n/\i<=gJ dig t (j+1)):=⟨by rw[<-N.o];exact lL _ _ _ (i3 N.o),i0 (m8 dig t (j+1)) T.o.2⟩
      obtain⟨br,b0⟩:∃br,br=gJ dig t (j+1):=⟨_,rfl⟩
      rw[<-b0]at Y y;have ah:V _:=b0.symm;clear b0;go_wp2_with fail;go_loopw [7] (λS W=>W=aU/\∃j:Nat,j<=n/\S=h1 j/\V (gJ dig t j=br)) (λS _=>n-(intOf S).toNat)
      case atStart=>exact⟨rfl,j+1,by omega,by go_num,ah⟩
      case round=>
       obtain⟨rfl,k,O,rfl,aG⟩:=hrel;by_cases d3:k=br
       ·by_cases cr:k<n
        ·have c3:=(aD.o _ J.o.k).at_ k cr;have z:V _:=lr (bt t k) wr;rw[zG aG.o (i1 N.o cr) d3]at z;subst d3;have bO:V _:=Y.o;have b:V (i<=k/\k<=n):=⟨y.o.2,y.o.1⟩
         generalize bt t k=ae at c3 z;go_upto_region 24 with (go_at_call 110;refine yaj z.o ?_;rintro e aH ⟨rfl,X⟩;obtain rfl:=X.symm);clear c3 z;exact xbc
        subst d3;have bO:V _:=Y.o;have b:V (i<=k/\k<=n):=⟨y.o.2,y.o.1⟩
        go_upto_region 24 with fail;exact xbc
       obtain⟨F,h2,h3⟩:=Gf aG.o d3;have cr:k<n:=by rw[N.o]at F;exact F
       have c3:=(aD.o _ J.o.k).at_ k cr;have z:V _:=lr (bt t k) wr;rw[h2]at z;have R:V _:=h3;clear F h2 h3;generalize bt t k=ae at c3 z;go_wp2_with (go_at_call 110;refine yaj z.o ?_;rintro e aH ⟨rfl,X⟩;obtain rfl:=X.symm);exact xck
     have bO:V (Z=ik/\P=j):=⟨av.o.trans (h6 (λh=>l h.2.1)),u.o.trans (h6 (λh=>l h.2.1))⟩
     have b:V (i<=j/\j<=n):=⟨T.o.2,T.o.1⟩
     have aj:(ad==46)=false:=by simpa using l
     clear HD aa u av l;exact xaz
    have bO:V (Z=ik/\P=j):=⟨av.o.trans (h6 (λh=>ix N.o)),u.o.trans (h6 (λh=>ix N.o))⟩
    have b:V (i<=j/\j<=n):=⟨T.o.2,T.o.1⟩
    clear HD aa u av;exact xaz
   subst d2;have bO:V (Z=ik/\P=j):=⟨av.o.trans (h6 (λh=>ix N.o)),u.o.trans (h6 (λh=>ix N.o))⟩
   have b:V (i<=j/\j<=n):=⟨T.o.2,T.o.1⟩
   clear u av;go_upto_region 19 with fail;go_upto_region 24 with fail;exact xag
  obtain⟨F,h2,h3⟩:=Gf m.o d2;have hlt:j<n:=by rw[N.o]at F;exact F
  have c1:=(aD.o _ C.o.k).at_ j hlt;have HD:V _:=lr (bt t j) wr;rw[h2]at HD;have R:V _:=h3;clear F h2 h3;generalize bt t j=ae at c1 HD;go_wp2_with (go_at_call 110;refine yaj HD.o ?_;rintro e aH ⟨rfl,X⟩;obtain rfl:=X.symm);exact xhm
def xI(x:UInt8)(k:Nat):List UInt8:=if x∈onesL.take k then[x] else[]
theorem Gh{x k}(O:k<10)(h:onesL.getD k 0=x):xI x (k+1)=[x]:=by
 unfold xI;rw[h7];have ai:k<onesL.length:=O;exact xjc
theorem DJ{x k}(O:k<10)(h:onesL.getD k 0≠x):xI x (k+1)=xI x k:=by
 unfold xI;have ai:k<onesL.length:=O;exact xfz
abbrev onesS:ByteArray:={data:=#[43,45,42,47,40,41,44,59,58,61]}
theorem Gi:∀k:Fin 10,onesS.extract k.1 (k.1+1)=⟨#[onesL.getD k.1 0]⟩:=by decide+kernel
theorem Gj:∀k:Fin 10,∀h,((onesS[k.1]'h).toNat:Int)=bt onesL k.1:=by decide+kernel
theorem J0(k)(O:k<10)(h):((onesS[k]'h).toNat:Int)=bt onesL k:=Gj ⟨k,O⟩ h
theorem bO.qca(h:Zp:=by
 have cf:V _:=λW k=>(aD.o W k).at_ i hi;generalize bt t i=bF at c0 aQ U C cf
 go_upto_region 26 with (first
  |(go_at_call 119;refine yaj (aQ.o _) ?_;rintro e aH ⟨rfl,X⟩;obtain rfl:=X.symm)
  |(go_at_call 110;refine yaj (U.o _) ?_;rintro e aH ⟨rfl,X⟩;obtain rfl:=X.symm))
 clear c0 aQ U aD;go_wp2_with fail;go_loopw [11] (λS W=>∃k:Nat,k<=10/\S=h1 k/\V (NI w W (xI N k) i (xI N k))) (λS _=>10-(intOf S).toNat)
 case atStart=>exact⟨0,by omega,rfl,HN⟩
 case round=>
  obtain⟨k,O,rfl,aL⟩:=hrel;by_cases b:k<10
  ·have c1:=cf.o _ aL.o.k
   have aX:V (onesL.getD k 0=N↔bt onesL k=bF):=by
    show _↔_;rw[C.o];unfold bt;constructor
    ·grind
    intro h;exact UInt8.toNat_inj.1 xaa
   have bp:∀h,_:=λh=>J0 k b h;have ap:onesS.extract k (k+1)=⟨#[onesL.getD k 0]⟩:=Gi ⟨k,b⟩;generalize bt _ k=y at aX bp;go_upto_region 30 with fail;go_quiet (fail)
   have a0:V _:=aL.o.keep (eH 0 0 _ nq);clear c1 aL;generalize wr.drewN _=cc at a0⊢;have bh:=a0.o.t.c0;have aJ:=a0.o.t.fr 0;have y2:=a0.o.t.c2;have y3:=a0.o.t.fr 2;cases aA:(y==bF)
   ·have ao:onesL.getD k 0≠N:=λc=>by have:=aX.o.1 c;rw[this]at aA;simp at aA
    have R:V _:=a0.o;rw[<-DJ b ao]at R;clear a0 ao ap bh aJ y2 y3;go_wp2_with fail;grind[intOf]
   have ao:=aX.o.2 (by simpa using aA);have R:V _:=(a0.o.sym [N]).text [N];rw[ao]at ap;have bJ:=Gh b ao;have Y:V _:=bJ;have HZ:V (eK [N]=.string _):=rfl;generalize xI _ k=aY at bh y2 a0;clear a0 ao bJ;have aR:IntKind.i64.wrap (k+1)=k+1:=by rw[IntKind.wrap_i64];omega
   have bd:(0:Int)<=k:=xaa;have bu:(k:Int)+1<=10:=xaa;go_wp2_with fail;go_roundw;exact⟨k+1,by omega,by go_num,i1 Y.o R⟩;simp[intOf];omega
  obtain rfl:k=10:=xaa;have ar:V _:=aL.o;rw[show xI _ _=ll _ from rfl]at ar;generalize G:ll _=au at ar;have u:V _:=G;clear G;obtain⟨_,bq,aq,aT,ak⟩:=ar.o.r;obtain⟨_,bl,aS,a9,a⟩:=ar.o.t;have bR:=ak 0;have bS:=ak 1;have bT:=ak 2;have R:V _:=ar.o.fin;have aR:IntKind.i64.wrap (i+1)=i+1:=by rw[IntKind.wrap_i64];omega
  clear aL ak a ar;go_wp2_with fail;change bodyPost _ _ _ _ _ (((wr.setCell _ (eK _)).setCell _ _).setCell _ (eK _));generalize ((wr.setCell _ _).setCell _ _).setCell _ _=ca at R⊢;obtain⟨⟨_,bN,f1,f2,_⟩,r⟩:=R.o;refine yaz (v:=.tuple #[.agg #[eK au,h1 i,eK au],h1 ((i:Int)+1)]) (by simp[results,results108,go_sem,bN,f1,f2]) rfl ⟨?_,r⟩;rw[u.o,Int.natCast_add];rfl):Zp:=h
open bO in
theorem DK(w g off n cap t)(f:TxS w g off n t)(i)(hi:i<n)(ag:n<=1000000)(bV:nZ (bt t i)=false)(aO:dig (bt t i)=false):
  Calls prog 108 #[.slice (some ⟨g,off,none⟩) n cap,h1 i] w (NxO w (nxT t i) (nxE t i)):=by
 have aD:V (∀W,Kept 0 0 w W->_):=λW k=>f.keep k;have bI:V (nxT t i=⟨ll (t.getD i 0),i,ll (t.getD i 0)⟩):=by show _=_;unfold nxT;simp_all
 have HE:V (nxE t i=i+1):=by show _=_;unfold nxE;simp_all
 have aK:=f.lt;have aQ:V (∀W,Calls _ _ _ W λe B=>e=.returned (.bool false)/\B=W):=λW=>by rw[<-bV];exact oB _ W
 have U:V (∀W,Calls _ _ _ W λe B=>e=.returned (.bool false)/\B=W):=λW=>by rw[<-aO];exact lr _ W
 have C:V (bt t i=((t.getD i 0).toNat:Int)):=rfl;unfold NxO;rw[bI.o,HE.o];clear bI HE f bV aO;generalize t.getD i 0=N at C⊢;exact qbz
theorem NF(w g off n cap t)(f:TxS w g off n t)(i)(hi:i<n)(ag:n<=1000000)(aW:n<=cap):
  Calls prog 108 #[.slice (some ⟨g,off,none⟩) n cap,h1 i] w (NxO w (nxT t i) (nxE t i)):=by
 cases bV:nZ (bt t i)
 ·cases aO:dig (bt t i)
  ·exact DK w g _ n _ t f i hi ag bV aO
  exact Gg w g _ n _ t f i hi ag aW bV aO
 exact DI w g _ n _ t f i hi ag aW bV
def tkc(k:Tok):List Value:=[eK k.sym,.int .i64 (k.pos:Int),eK k.text]
def tkF:List Tok->List Value
 |[]=>[]
 |k::r=>tkc k++tkF r
theorem J1(a b):tkF (a++b)=tkF a++tkF b:=by
 induction a<;>grind[tkF]
theorem J2(k):tkF [k]=tkc k:=by simp[tkF]
theorem Gk:∀(a:List Tok) (k j:Nat),k<a.length->j<3->(tkF a)[k*3+j]? =(tkc (a.getD k ih))[j]?
 |x::r,0,j,_,hj=>by
  grind[tkF,tkc]
 |x::r,k+1,j,O,hj=>by
  have ap:(tkc x).length=3:=rfl
  rw[tkF,yas xaa,ap,show(k+1)*3+j-3=k*3+j by omega]
  exact Gk r k j (by grind) hj
def TR(W:World)(B:Nat)(v:Value)(ts:List Tok):Prop:=W.ownsRow B 137 3 v ts.length (tkF ts)
theorem TR.keep{W}(f:TR W I v ts)(k:Kept 0 0 W H):TR H I v ts:=eN f k
theorem TR.nil(W I):TR W I (.slice none 0 0) []:=yaw _ _ _ _
theorem TR.blk{W}(f:TR W I v ts)(h:v.ownBlock=some g):I<=g/\g<W.heap.size:=eG f h
structure TkA(w:World)(g off n:Nat)(ts:List Tok):Prop where
 len:ts.length=n
 lt:g<w.heap.size
 c0:∀k,k<n->w.cell? ⟨g,off+k*3,none⟩=some (eK (ts.getD k ih).sym)
 c1:∀k,k<n->w.cell? ⟨g,off+k*3+1,none⟩=some (.int .i64 ((ts.getD k ih).pos:Int))
 c2:∀k,k<n->w.cell? ⟨g,off+k*3+2,none⟩=some (eK (ts.getD k ih).text)
theorem TR.at_{W}(f:TR W I v ts)(h:0<ts.length):∃g cap,v=h0 g ts.length cap/\I<=g/\TkA W g 0 ts.length ts/\ts.length<=cap:=by
 rcases f.2 with⟨_,c⟩|⟨g,cap,ad,rfl,U,aV,aa,_,ct,bX⟩
 ·omega
 have aK:g<W.heap.size:=by grind
 have Y:∀k j,k<ts.length->j<3->W.cell? _=(tkc _)[j]?:=λk j O hj=>by
  rw[cell_of_row W g _ _ _ _ aV,<-Array.getElem?_toList]
  have:(ad.toList.take (ts.length*3))[k*3+j]? =(tkF ts)[k*3+j]?:=by rw[bX]
  rw[List.getElem?_take_of_lt xaa]at this
  rw[this]
  exact Gk _ k j O hj
 refine⟨g,_,rfl,U,⟨rfl,aK,λk O=>?_,λk O=>?_,λk O=>?_⟩,aa⟩
 ·rw[Nat.zero_add];exact Y k 0 O xaa
 ·rw[Nat.zero_add];exact Y k 1 O xaa
 rw[Nat.zero_add];exact Y k 2 O xaa
theorem NG:(prog.info? 137).map (λi=>(i.zero,i.size,i.bytes))=some (some (.agg #[.string ⟨#[]⟩,h1 0,.string ⟨#[]⟩]),3,40):=by kernel_rfl
theorem xJ:∃b1,prog.info? 137=some b1/\b1.zero=some (.agg #[.string ⟨#[]⟩,h1 0,.string ⟨#[]⟩])/\b1.size=3/\b1.bytes=40:=by
 have h:=NG;simp_all
theorem zH(w:World)(k T):∀j u,(tkc k)[j]? =some u->(w.alloc (.cells #[eK k.sym,h1 k.pos,eK k.text] T)).cell? ((⟨w.heap.size,0,none⟩:Addr).add j)=some u:=by
 intro j u h;rw[iM,Nat.zero_add,yav];match j,h with
 |0,h=>exact h
 |1,h=>exact h
 |2,h=>exact h
theorem oJ(w){o a}(au:o.guard=none)(s x)
  (ho:o.op=.call {callee:=.builtin .append,args:=#[s,x],argTypes:=#[133,133]})
  (I) (v) (ts) (aw:a.eval s=v) (bq:TR w I v ts)
  (av) (k) (ap:a.eval x=.slice (some av) 1 1) (d:∀j u,(tkc k)[j]? =some u->w.cell? (av.add j)=some u)
  (f:ts.length+1<=1000000) (ae:I<=w.heap.size)
  (h:∀g cap n B,n=(ts++[k]).length->TR B I (h0 g n cap) (ts++[k])->Chg (λb=>v.ownBlock=some b) w B->(v.ownBlock=some g\/g=w.heap.size)->wpList prog bW Q rest (a.put o.dst (h0 g n cap)) B):wpList prog bW Q (o::rest) a w:=by
 obtain⟨b1,hi,hz0,hz1,hz2⟩:=xJ;refine wpList_append_lies w au s x _ ho I 137 _ _ 3 _ underlying133 hi hz0 hz1 hz2 rfl xab v _ _ aw bq _ 1 1 _ ap rfl d ?_ xab (by unfold maxLen;omega) xaa ae _ rfl ?_
 ·intro u a6;simp[tkc]at a6;rcases a6 with rfl|rfl|rfl<;>rfl
 intro g cap B F h2 h3 _;have e:ts.length+1=(ts++[k]).length:=by grind
 rw[e]at F⊢;refine h g _ _ _ rfl ?_ (fT h2) h3;unfold TR;rw[J1,J2];exact F
theorem Cz{W}(a7:w.heap.size<=I)(k:Kept 0 0 w W)(f:TR W I v ts)(c:Chg (λb=>v.ownBlock=some b) W H):Kept 0 0 w H:=
 Chg.kept k c (λ_ hi=>yao a7 (f.blk hi).1)
theorem Gl(w g off n cap t)(f:TxS w g off n t)(ag:n<=100000)(aW:n<=cap):
  Calls prog 96 #[.slice (some ⟨g,off,none⟩) n cap] w λe B=>∃v,e=.returned v/\TR B w.heap.size v (jq t)/\Kept 0 0 w B:=by
 have aD:V (∀W,Kept 0 0 w W->_):=λW k=>f.keep k;have au:V _:=FG w g _ n cap t f 0 xaa xaa;have N:V _:=f.len;have bv:V (skM t 0<=n):=by show _<=_;rw[<-f.len];exact xz t 0 yae
 clear f;obtain⟨A,be⟩:∃A,A=jq t:=⟨_,rfl⟩
 rw[<-be];have bO:V ([]++kL t _=A):=be.symm;clear be;go_enter func96,ntmps96;go_wp2_with (go_at_call 107;refine yaj au.o ?_;rintro e aH ⟨rfl,X⟩;obtain rfl:=X.symm);go_loopw [3,4] (λv S W=>∃(k:Nat) (b:List Tok),k<=n/\b.length<=k/\S=h1 k/\V (TR W w.heap.size v b)/\V (Kept 0 0 w W)/\V (b++kL t k=A)) (λ_ S _=>n-(intOf S).toNat)
 case atStart=>exact⟨_,_,bv.o,yae,rfl,TR.nil _ _,Kept.refl 0 0 w,bO⟩
 case round=>
  obtain⟨k,b,O,m,rfl,K,aG,bm⟩:=hrel;by_cases hlt:k<n
  ·have a:k<t.length:=by rw[N.o];exact hlt
   have HX:V _:=NF _ g _ n _ t (aD.o _ aG.o) k hlt xaa aW;have T:V (k<nxE t k/\nxE t k<=n/\nxE t k<=skM t _/\skM t _<=n):=⟨tT a,by rw[<-N.o];exact FE a,pR _ _,by rw[<-N.o];exact xz t _ (FE a)⟩
   have l:V ((nxT t k).sym=[]->b++[nxT t k]=A):=λh=>by rw[<-bm.o,Dq a h]
   have d:V ((nxT t k).sym≠[]->(b++[nxT t k])++kL t (skM t (nxE t k))=A):=λh=>by rw[<-bm.o,FF a h];simp
   unfold NxO iT at HX;generalize nxT t k=C at HX l d;have co:V _:=λW aj=>FG W g _ n cap t (aD.o W aj) _ T.o.2.1 xaa;generalize nxE t k=ne at HX T d co;generalize skM t _=y at T d co;have aA:V _:=λam:World=>zH am C 137;obtain⟨aT,ps,a8⟩:=C;simp only at HX l d aA;clear bm a
   go_wp2_with (first
    |(go_at_call 108;refine yaj HX.o ?_;rintro e am ⟨rfl,av⟩)
    |(at_builtin;refine oJ _ rfl _ _ rfl _ _ _ rfl ((K.o.keep av).keep ((eA 0 0 _ _).trans (eA 0 0 _ _))) _ ⟨aT,ps,a8⟩ rfl ?c1 ?c2 ?c3 ?_)
    |fail)
   case c1=>
    have b3:=aA.o (am.alloc (.cells #[eK aT,h1 ps,eK a8] 137));rw[show(am.alloc _).heap.size=am.heap.size+1 by simp]at b3;exact b3
   case c2=>omega
   case c3=>have:=aG.o.size;have:=av.size;simp;omega
   intro g9 cap9 n9 bn an b9 bF ch;have R1:V _:=b9;have P:=(aG.o.trans av).trans ((eA 0 0 _ (.cells #[eK aT,h1 ps,eK a8] 137)).trans (eA 0 0 _ (.cells #[eK aT,h1 ps,eK a8] 137)));have R2:V _:=Cz yad P ((K.o.keep av).keep ((eA 0 0 _ _).trans (eA 0 0 _ _))) bF
   have r:bn.cell? ⟨am.heap.size,0,none⟩=some (eK aT):=by
    rw[bF.cell yag (λc=>by have:=(K.o.blk c).2;have:=av.size;simp at*;omega),(eA 0 0 _ _).cell xac xaa,yav];rfl
   clear b9 bF ch an P;cases aw:(aT==[])
   ·have bc:aT≠[]:=by intro c;rw[c]at aw;simp at aw
    have R3:V _:=d.o bc;have bE:V _:=co.o _ R2.o;have aV:(b++[(⟨aT,ps,a8⟩:Tok)]).length=b.length+1:=by simp
    clear bc;go_wp2_with (go_at_call 107;refine yaj bE.o ?_;rintro e a5 ⟨rfl,X⟩;obtain rfl:=X.symm);go_roundw
    case rel=>exact⟨_,_,T.o.2.2.2,by rw[aV];have:=T.o;omega,rfl,R1,R2,R3⟩
    case measure=>simp[intOf];have:=T.o;omega
   have Y:aT=[]:=by simpa using aw
   have R3:V _:=l.o Y;rw[R3.o]at R1;clear Y;go_wp2_with fail;go_ret;exact⟨_,rfl,R1.o,R2.o⟩
  rw[Dp (i1 N.o hlt),List.append_nil]at bm;obtain rfl:=bm.o;go_wp2_with fail;go_ret;exact⟨_,rfl,K.o,aG.o⟩
def WB(W:World)(B:Nat)(v:Value)(ss:List (List UInt8)):Prop:=W.ownsRow B 9 1 v ss.length (ss.map λl=>eK l)
theorem WB.keep{W}(f:WB W I v ss)(k:Kept 0 0 W H):WB H I v ss:=eN f k
theorem WB.blk{W}(f:WB W I v ss)(h:v.ownBlock=some g):I<=g/\g<W.heap.size:=eG f h
theorem J3:(prog.info? 9).map (λi=>(i.zero,i.size,i.bytes))=some (some (.string ⟨#[]⟩),1,16):=by kernel_rfl
theorem vz:∃b1,prog.info? 9=some b1/\b1.zero=some (.string ⟨#[]⟩)/\b1.size=1/\b1.bytes=16:=by
 have h:=J3;simp_all
def WC(w:World)(a:Addr)(ss:List (List UInt8)):Prop:=∀j x,ss[j]? =some x->w.cell? (a.add j)=some (eK x)
theorem WC.news{a}(h:WC w a ss):∀j u,(ss.map λl=>eK l)[j]? =some u->w.cell? (a.add j)=some u:=by
 intro j u a6;rw[List.getElem?_map]at a6;cases e:ss[j]? with
 |none=>grind
 |some x=>rw[e]at a6;cases a6;exact h j x e
theorem WB.at_{W}(f:WB W I v ss)(h:0<ss.length):∃g cap,v=h0 g ss.length cap/\I<=g/\g<W.heap.size/\WC W ⟨g,0,none⟩ ss/\ss.length<=cap:=by
 have al:=f;rcases f.2 with⟨_,c⟩|⟨g,cap,ad,e,U,aV,aa,_,ct,bX⟩
 ·omega
 have aK:g<W.heap.size:=by grind
 refine⟨g,_,e,U,aK,λj x ap=>?_,aa⟩;subst e;exact World.ownsRow.cells al rfl j _ (by grind)
theorem um(w){o a}(au:o.guard=none)(s x)
  (ho:o.op=.call {callee:=.builtin .append,args:=#[s,x],argTypes:=#[145,145]})
  (I) (v) (ss) (aw:a.eval s=v) (bq:WB w I v ss)
  (av) (m c) (ys) (ap:a.eval x=.slice (some av) m c) (ai:ys.length=m) (d:WC w av ys)
  (ao:0<m) (f:ss.length+m<=1000000) (ae:I<=w.heap.size)
  (h:∀g cap n B,n=(ss++ys).length->WB B I (h0 g n cap) (ss++ys)->Chg (λb=>v.ownBlock=some b) w B->(v.ownBlock=some g\/g=w.heap.size)->wpList prog bW Q rest (a.put o.dst (h0 g n cap)) B):wpList prog bW Q (o::rest) a w:=by
 obtain⟨b1,hi,hz0,hz1,hz2⟩:=vz;refine wpList_append_lies w au s x _ ho I 9 _ _ 1 _ underlying145 hi hz0 hz1 hz2 rfl xab v _ _ aw bq _ m c _ ap (by grind) d.news ?_ ao (by unfold maxLen;omega) xaa ae _ rfl ?_
 ·intro u a6;obtain⟨x,_,rfl⟩:=List.mem_map.1 a6;rfl
 intro g cap B F h2 h3 _;have e:ss.length+m=(ss++ys).length:=by grind
 rw[e]at F⊢;refine h g _ _ _ rfl ?_ (fT h2) h3;unfold WB;grind
end
section
def l3n(x:Nat):List UInt8:=if x%10<6 then gM (x/10%6)else if x%10=6 then gM x++[46,53]else if x%10=7 then[48,46]++gM x else if x%10=8 then[49]else ([48,48]++gM x)++[46,50,53,48,48]
theorem Bx(w P a n cap i bs)(f:RdF w P a n cap i bs):
  Calls prog 131 #[hZ P] w λe B=>e=.returned (eK (l3n (nv bs i)))/\RdF B P a n cap (ni bs i) bs/\Kept P (P+1) w B/\B.heap.size=w.heap.size:=by
 have HN:V _:=iw w P a n _ i _ f;have ap:=fp f.ys i;generalize nv _ i=x at HN ap⊢;have HD:V _:=zE x x yad xaa;have X:V (∀W:World,Calls _ _ #[.int _ (x/10%6)] W _):=zE _ (x/10%6) yad xaa;have HL:V ((gM x).length<=300):=by have:=ke x;show _<=_;omega
 clear f;unfold l3n;rcases (by omega:x%10<6\/x%10=6\/x%10=7\/x%10=8\/x%10=9) with c|c|c|c|c
 ·rw[h7 c];have c1:(x:Int)%10<6:=xaa;unfold eK at X⊢;go_enter func131,ntmps131;go_wp2_with (first|(go_at_call 14;refine yaj HN.o ?_;rintro e aH ⟨rfl,aF,an,aR⟩)|(go_at_call 100;refine yaj (X.o _) ?_;rintro e am ⟨rfl,rfl⟩));go_ret;exact⟨rfl,aF,an,aR⟩
 ·rw[h6 xaa,h7 c];have c1:(x:Int)%10=6:=xaa;unfold eK at HD⊢;rw[<-ul]
  have a5:¬(9223372036854775807<(⟨(gM x).toArray⟩:ByteArray).size+(⟨#[46,53]⟩:ByteArray).size):=by
   rw[fO];have:=HL.o;simp[ByteArray.size];omega
  exact xdn
 ·rw[h6 xaa,h6 xaa,h7 c];have c1:(x:Int)%10=7:=xaa;unfold eK at HD⊢;rw[<-ul]
  have a5:¬(9223372036854775807<(⟨#[48,46]⟩:ByteArray).size+(⟨(gM x).toArray⟩:ByteArray).size):=by
   rw[fO];have:=HL.o;simp[ByteArray.size];omega
  exact xdn
 ·rw[h6 xaa,h6 xaa,h6 xaa,h7 c];have c1:(x:Int)%10=8:=xaa;go_enter func131,ntmps131;go_wp2_with (go_at_call 14;refine yaj HN.o ?_;rintro e aH ⟨rfl,aF,an,aR⟩);go_ret;exact⟨rfl,aF,an,aR⟩
 rw[h6 xaa,h6 xaa,h6 xaa,h6 xaa];have c1:(x:Int)%10=9:=xaa;unfold eK at HD⊢;rw[<-ul,<-ul]
 have a5:¬(9223372036854775807<(⟨#[48,48]⟩:ByteArray).size+(⟨(gM x).toArray⟩:ByteArray).size):=by
  rw[fO];have:=HL.o;simp[ByteArray.size];omega
 have hz2:¬(9223372036854775807<((⟨#[48,48]⟩:ByteArray)++(⟨(gM x).toArray⟩:ByteArray)).size+(⟨#[46,50,53,48,48]⟩:ByteArray).size):=by
  rw[yar,fO];have:=HL.o;simp[ByteArray.size];omega
 generalize (⟨_⟩:ByteArray)=d at HD a5 hz2⊢;exact xcm
