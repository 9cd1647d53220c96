import Derived.Test.YtcagphgmfbjneaaGreatP25
namespace Go.Proofs.Z
variable{Zp:Prop}
open Tryz Go.RowKit Flt
set_option maxRecDepth 1000000
set_option maxHeartbeats 0
section
variable{ins:List Int}{ss:List Ste}{s:Ste}{n:Nat}
def jU(s:Ste):Vl:=⟨s.op,s.len,s.a,s.b,s.c,s.k⟩
def eY(s:Ste):List Spn:=[⟨s.a,s.n⟩,⟨s.b,s.len⟩,⟨s.c,s.len⟩].take (cnt s.op)
def fA(ins:List Int)(s:Ste):Bool:=
 ((lenB s.len&&fF (jU s))&&!(decide (cnt s.op=0)&&s.n !=0))&&
   (if s.op=0 then gm s.a ins.length&&ins.getD s.a.toNat 0==s.len else eQ s.op s.len s.c ([s.n,s.len,s.len].take (cnt s.op)))
def fZ(ss:List Ste)(n:Nat)(c:Int):Bool:=(ss.take n).any λs=>decide (s.dst<=c/\c<s.dst+s.len)
def kM(off len peak:Int):Bool:=decide (0<=off/\off<=peak-len)
def jA(ss:List Ste)(n:Nat)(peak off len:Int):Bool:=kM off len peak&&(List.range len.toNat).all λj=>fZ ss n (off+(j:Nat))
def Hm(s:Ste)(p:Spn):Bool:=decide (s.dst<p.off+p.len/\p.off<s.dst+s.len)
def jB(ss:List Ste)(i:Nat)(peak:Int)(s:Ste)(p:Spn):Bool:=jA ss i peak p.off p.len&&!Hm s p
def iA(ins:List Int)(ss:List Ste)(peak:Int)(i:Nat):Bool:=
 fA ins (ss.getD i Ste.zero)&&(kM (ss.getD i Ste.zero).dst (ss.getD i Ste.zero).len peak&&(eY (ss.getD i Ste.zero)).all (jB ss i peak (ss.getD i Ste.zero)))
def kV(ins:List Int)(n2 n3:Nat)(peak:Int):Bool:=(((decide (ins.length<=20)&&decide (n2<=2000))&&decide (n3<=50))&&ins.all lenB)&&decide (0<=peak/\peak<=50000)
def oe(ss:List Ste)(peak:Int)(p:Spn):Bool:=lenB p.len&&jA ss ss.length peak p.off p.len
def iG(ins:List Int)(ss:List Ste)(os:List Spn)(peak:Int):Bool:=
 (kV ins ss.length os.length peak&&(List.range ss.length).all (iA ins ss peak))&&os.all (oe ss peak)
theorem lV(s):(eY s).length=cnt s.op:=by
 have:=gK s.op;simp[eY];omega
theorem jV(h:fA ins s=true):1<=s.len/\s.len<=1000:=by
 grind[fA,lenB]
theorem tE(h:fA ins s=true):0<=s.op/\s.op<=13:=by
 grind[fA,vW]
theorem qb(h:fA ins s=true)(ak:s.op≠0):eQ s.op s.len s.c ([s.n,s.len,s.len].take (cnt s.op))=true:=by
 grind[fA]
theorem uI(h:fA ins s=true)(al:0<cnt s.op):1<=s.n/\s.n<=1000:=by
 have ak:s.op≠0:=λe=>by rw[e]at al;exact absurd al xab
 have ai:=jV h;have aw:=qb h ak;grind[eQ,cnt,lenB]
theorem qd(h:fA ins s=true){p}(aQ:p∈eY s):1<=p.len/\p.len<=1000:=by
 have ai:=jV h;by_cases al:0<cnt s.op
 ·have ag:=uI h al;have:=List.mem_of_mem_take aQ;grind
 grind[eY]
theorem uJ(ss c):fZ ss 0 c=false:=by simp[fZ]
theorem uK(h:n<ss.length)(c):fZ ss (n+1) c=(fZ ss n c||decide ((ss.getD n Ste.zero).dst<=c/\c<(ss.getD n Ste.zero).dst+(ss.getD n Ste.zero).len)):=by
 unfold fZ;rw[yau h,List.any_append];simp_all
theorem BH{k}(O:k<n)(ag:n<=ss.length){c}(h:(ss.getD k Ste.zero).dst<=c/\c<(ss.getD k Ste.zero).dst+(ss.getD k Ste.zero).len):fZ ss n c=true:=by
 grind[fZ,List.mem_take_iff_getElem]
theorem sr{a}(aQ:a<=50000)(h:(List.range n).all (iA ins ss a)=true):∀k,k<n->0<=(ss.getD k Ste.zero).dst/\(ss.getD k Ste.zero).dst<=50000/\1<=(ss.getD k Ste.zero).len/\(ss.getD k Ste.zero).len<=1000/\(ss.getD k Ste.zero).dst+(ss.getD k Ste.zero).len<=a:=λk O=>by
 rw[List.all_eq_true]at h
 have F:=h k (List.mem_range.2 O)
 unfold iA at F
 simp only[Bool.and_eq_true]at F
 have h2:=jV F.1
 have h3:=of_decide_eq_true F.2.1
 omega
end
section
attribute[local go_sem] eE eD eC
variable{bW:Array Oper}{bs:List Int}{Q:Exit->Act->World->Prop}
def it(v:Int):List Int:=[v%256,v/256]
def jb(b:Nat):Nat->List Int
 |0=>[]
 |k+1=>jb b k++[((b/256 ^ k%256:Nat):Int)]
def fw(s:Ste):List Int:=[s.len,s.n,s.dst,s.a,s.b,s.c]
def my(s:Ste):List Int:=[s.op]++(fw s).flatMap it++(if s.op=1 then jb (fb s.k) 8 else[])
def qe(p:Spn):List Int:=it p.off++it p.len
def mq(ins:List Int)(ss:List Ste)(os:List Spn)(pk:Int):List Int:=
 [71,76]++it ins.length++ins.flatMap it++it ss.length++ss.flatMap my++it os.length++os.flatMap qe++it pk
theorem Am(v):(it v).length=2:=rfl
theorem jC(b):∀k,(jb b k).length=k
 |0=>rfl
 |k+1=>by rw[jb,yal,jC b k];rfl
theorem jG(xs:List Int):(xs.flatMap it).length=2*xs.length:=by
 induction xs<;>simp_all[Am]<;>grind
theorem mM{J b:Type}(f:J->List b)(xs:List J)(z){k}(h:k<xs.length):(xs.take (k+1)).flatMap f=(xs.take k).flatMap f++f (xs.getD k z):=by
 rw[yau h,List.flatMap_append,List.flatMap_singleton];simp_all
theorem Hn(s):(my s).length=13+(if s.op=1 then 8 else 0):=by
 grind[my,fw,jG,jC]
theorem qR(ss:List Ste):(ss.flatMap my).length<=21*ss.length:=by
 induction ss<;>simp_all[Hn]<;>grind
theorem qS(a8:List Spn):(a8.flatMap qe).length=4*a8.length:=by
 induction a8<;>simp_all[qe,Am]<;>grind
def YB(W:World)(B:Nat)(v:Value)(bs:List Int):Prop:=W.ownsRow B 5 1 v bs.length (bs.map (Value.int .u8))
theorem YB.keep{W H I v}(f:YB W I v bs)(k:Kept 0 0 W H):YB H I v bs:=eN f k
theorem YB.blk{W I v}(f:YB W I v bs){g}(h:v.ownBlock=some g):I<=g/\g<W.heap.size:=eG f h
theorem YB.lit(w:World)(I bs cs n)(al:cs.toList=bs.map (Value.int .u8))(ag:bs.length=n)(hb:I<=w.heap.size)(ao:n<=1000000):YB (w.alloc (.cells cs 5)) I (h0 w.heap.size n n) bs:=by
 grind[YB,List.length_map,World.ownsRow_lit,maxLen]
theorem M7{w:World}{av:Addr}{ys:List Int}(h:∀j,j<ys.length->w.cell? (av.add j)=some (.int .u8 (ys.getD j 0))):∀j u,(ys.map (Value.int .u8))[j]? =some u->w.cell? (av.add j)=some u:=by
 grind
theorem oT(w){rest o a}(au:o.guard=none)(s x)
  (ho:o.op=.call {callee:=.builtin .append,args:=#[s,x],argTypes:=#[22,22]})
  (I) (v) (bs) (aw:a.eval s=v) (bq:YB w I v bs)
  (av) (m c) (ys) (ap:a.eval x=.slice (some av) m c) (ai:ys.length=m) (d:∀j,j<ys.length->w.cell? (av.add j)=some (.int .u8 (ys.getD j 0)))
  (ao:0<m) (f:bs.length+m<=100000000) (ae:I<=w.heap.size)
  (h:∀g cap n B,n=(bs++ys).length->YB B I (h0 g n cap) (bs++ys)->Chg (λb=>v.ownBlock=some b) w B->(v.ownBlock=some g\/g=w.heap.size)->wpList prog bW Q rest (a.put o.dst (h0 g n cap)) B):wpList prog bW Q (o::rest) a w:=by
 obtain⟨b1,hi,hz0,hz1,hz2⟩:=info_parts MN;refine wpList_append_lies w au s x _ ho I 5 _ _ 1 1 underlying22 hi hz0 hz1 hz2 rfl xab v _ _ aw bq _ m c _ ap (by grind) (M7 d) ?_ ao (by unfold maxLen;omega) xaa ae _ rfl ?_
 ·intro u a6;obtain⟨x,_,rfl⟩:=List.mem_map.1 a6;rfl
 intro g cap B F h2 h3 _;have e:bs.length+m=(bs++ys).length:=by grind
 rw[e]at F⊢;refine h g _ _ _ rfl ?_ (fT h2) h3;unfold YB;grind
theorem nH(w){o a K E}(au:o.guard=none)(s x)
  (ho:o.op=.call {callee:=.builtin .append,args:=#[s,x],argTypes:=#[22,22]})
  (I) (v) (bs) (aw:a.eval s=v) (bq:YB w I v bs)
  (av) (m c) (ys) (ap:a.eval x=.slice (some av) m c) (ai:ys.length=m) (d:∀j,j<ys.length->w.cell? (av.add j)=some (.int .u8 (ys.getD j 0)))
  (ao:0<m) (f:bs.length+m<=100000000) (ae:I<=w.heap.size)
  (h:∀g cap n B,n=(bs++ys).length->YB B I (h0 g n cap) (bs++ys)->Chg (λb=>v.ownBlock=some b) w B->(v.ownBlock=some g\/g=w.heap.size)->K (a.put o.dst (h0 g n cap)) B):
  if Region.wanted o (yielded bW a.tmps)=true then Oper.wp prog o a w K Q else E:=by
 obtain⟨b1,hi,hz0,hz1,hz2⟩:=info_parts MN;refine step_append_lies w au s x _ ho I 5 _ _ 1 1 underlying22 hi hz0 hz1 hz2 rfl xab v _ _ aw bq _ m c _ ap (by grind) (M7 d) ?_ ao (by unfold maxLen;omega) xaa ae _ rfl ?_
 ·intro u a6;obtain⟨x,_,rfl⟩:=List.mem_map.1 a6;rfl
 simp_all[fT,YB]
theorem An(w:World)(cs)(ys:List Int)(al:cs.toList=ys.map (Value.int .u8)):∀j,j<ys.length->(w.alloc (.cells cs 5)).cell? ((⟨w.heap.size,0,none⟩:Addr).add j)=some (.int .u8 (ys.getD j 0)):=by
 intro j hj;rw[iM,Nat.zero_add,yav,<-Array.getElem?_toList,al,List.getElem?_map,yam hj,yai,yam hj];rfl
def OD(w:World)(B:Nat)(v:Value)(bs:List Int)(e:Ending)(w':World):Prop:=
 ∃v',e=.returned v'/\YB w' B v' bs/\Chg (λb=>v.ownBlock=some b) w w'/\∀g,v'.ownBlock=some g->v.ownBlock=some g\/w.heap.size<=g
theorem uL{w W ax am S}{u:Value}{g n cap}(aj:Chg S w W)(br:∀g,u.ownBlock=some g->S g\/w.heap.size<=g)(k:Kept 0 0 W ax)(ae:Chg (λb=>u.ownBlock=some b) ax am)(az:u.ownBlock=some g\/g=W.heap.size+1):
  Chg S w am/\∀h,(h0 g n cap).ownBlock=some h->S h\/w.heap.size<=h:=by
 have F:=aj.size;have h2:=k.size;refine⟨Chg.new (Chg.trans aj k.chg) ae (λi hi hb=>?_),λh bx=>?_⟩
 ·grind
 grind[Value.ownBlock]
theorem cN.qcv(h:Zp:=by
 go_roundw;exact⟨k+1,by omega,by go_num,R1,R2.o.1,R2.o.2⟩;simp[intOf];omega):Zp:=h
open cN in
theorem qf(w I v bs xs a m c lo hi)(f:YB w I v bs)(x:IS w lo hi a m xs)(aO:∀g,lo<=g->g<hi->¬v.ownBlock=some g)(ap:∀y∈xs,0<=y/\y<65536)(hb:bs.length<=1000000)(ao:m<=1000000)(a7:I<=w.heap.size):
  Calls prog 35 #[v,.slice a m c] w (OD w I v (bs++xs.flatMap it)):=by
 have HX:V _:=x;have HD:V _:=aO;have aX:V (∀k,k<m->_):=λk O=>ap _ (pr (i1 x.len O));have aD:V _:=f;have HL:V _:=x.len;clear x aO ap f;go_enter func35,ntmps35;go_wp2_with fail;go_loopw [0,9] (λb i W=>∃k:Nat,k<=m/\i=h1 k/\V (YB W I b (bs++(xs.take k).flatMap it))/\V (Chg (λg=>v.ownBlock=some g) w W)/\V (∀g,b.ownBlock=some g->v.ownBlock=some g\/w.heap.size<=g)) (λ_ i _=>m-(intOf i).toNat)
 case atStart=>exact⟨0,yae,rfl,by rw[List.take_zero,List.flatMap_nil,List.append_nil];exact aD,(Kept.refl 0 0 w).chg,λg h=>.inl h⟩
 case round=>
  obtain⟨k,O,rfl,K,aj,br⟩:=hrel;by_cases hlt:k<m
  ·have aL:=HX.o.keepC aj.o HD.o;rcases aL.at_ with z|⟨d,off,rfl,aR,bd,bu,bC⟩
   ·omega
   have c1:=bC k hlt;have bp:=aX.o k hlt;have bI:V _:=mM it _ 0 (i1 HL.o hlt);generalize xs.getD k 0=y at c1 bp bI
   have N:V ((bs++(xs.take k).flatMap it).length<=3000000):=by
    show _<=_;rw[yal,jG,List.length_take];omega
   have au:V _:=aj.o.size;clear aR bd bu bC aL;go_wp2_with (first|(at_builtin;refine oT _ rfl _ _ rfl I _ _ rfl (YB.keep K.o (eA 0 0 _ _)) _ 2 2 _ rfl rfl (An _ _ (it y) rfl) xab ?c2 ?c3 ?_)|fail)
   case c2=>have:=N.o;omega
   case c3=>have:=au.o;simp;omega
   exact qcu
  obtain rfl:k=m:=xaa;rw[yap (i3 HL.o)]at K;go_wp2_with fail;go_ret;exact⟨_,rfl,K.o,aj.o,br.o⟩
theorem Ek(b k):b/256 ^ k/256=b/256 ^ (k+1):=by rw[Nat.div_div_eq_div_mul,Nat.pow_succ]
theorem Ho(b k):((b/256 ^ k:Nat):Int)/256=((b/256 ^ (k+1):Nat):Int):=by rw[<-Ek];omega
theorem cO.qcv(h:Zp:=by
 go_roundw;exact⟨k+1,by omega,by go_num,by rw[HQ.o],R1,R2.o.1,R2.o.2⟩;simp[intOf];omega):Zp:=h
open cO in
theorem El(w I v bs z)(a5:z<18446744073709551616)(f:YB w I v bs)(hb:bs.length<=10000000)(a7:I<=w.heap.size):
  Calls prog 36 #[v,.float .f64 z] w (OD w I v (bs++jb (fb z) 8)):=by
 have aD:V _:=f;have aA:fb z<18446744073709551616:=by unfold fb;grind
 have b8:V _:=Fy z w;clear f;generalize fb z=q at aA b8⊢;go_enter func36,ntmps36;go_wp2_with fail;refine yaj b8.o ?_;rintro e am ⟨rfl,rfl⟩;go_wp2_with fail;go_loopw [0,5,8] (λb x i W=>∃k:Nat,k<=8/\i=h1 k/\x=.int .u64 ((q/256 ^ k:Nat):Int)/\V (YB W I b (bs++jb q k))/\V (Chg (λg=>v.ownBlock=some g) am W)/\V (∀g,b.ownBlock=some g->v.ownBlock=some g\/am.heap.size<=g)) (λ_ _ i _=>8-(intOf i).toNat)
 case atStart=>exact⟨0,yae,rfl,by simp,by rw[jb,List.append_nil];exact aD,(iv).chg,λg h=>.inl h⟩
 case round=>
  obtain⟨k,O,rfl,rfl,K,aj,br⟩:=hrel;have HQ:V _:=Ho q k;by_cases hlt:k<8
  ·have N:V ((bs++jb q k).length<=30000000):=by
    show _<=_;rw[yal,jC];omega
   have au:V _:=aj.o.size;have bZ:q/256 ^ k<=q:=Nat.div_le_self _ _;have bI:V (jb q (k+1)=jb q k++[((q/256 ^ k%256:Nat):Int)]):=rfl;obtain⟨y,bp⟩:∃y,y=q/256 ^ k:=⟨_,rfl⟩
   rw[<-bp]at HQ bZ bI⊢;clear bp;have af:(y%256:Nat)=(y:Int)%256:=xaa;rw[af]at bI;clear af;go_wp2_with (first|(at_builtin;refine oT _ rfl _ _ rfl I _ _ rfl (YB.keep K.o (eA 0 0 _ _)) _ 1 1 _ rfl rfl (An _ _ [y%256] rfl) xab ?c2 ?c3 ?_)|fail)
   case c2=>have:=N.o;omega
   case c3=>have:=au.o;simp;omega
   exact qcu
  obtain rfl:k=8:=xaa;clear HQ;generalize q/256 ^ 8=y;go_wp2_with fail;go_ret;exact⟨_,rfl,K.o,aj.o,br.o⟩
end
section
structure SvOK(ins:List Int)(ss:List Ste)(os:List Spn)(pk:Int):Prop where
 li:ins.length<=20
 ls:ss.length<=2000
 lo:os.length<=51
 i:∀y∈ins,0<=y/\y<65536
 s:∀k,k<ss.length->(0<=(ss.getD k Ste.zero).op/\(ss.getD k Ste.zero).op<=14)/\∀y∈fw (ss.getD k Ste.zero),0<=y/\y<65536
 o:∀k,k<os.length->(0<=(os.getD k Spn.zero).off/\(os.getD k Spn.zero).off<65536)/\0<=(os.getD k Spn.zero).len/\(os.getD k Spn.zero).len<65536
 p:0<=pk/\pk<65536
def nk(s:Ste):Ste:=⟨s.op,s.len,s.n,s.dst,s.a,s.b,s.c,fb s.k⟩
end
section
attribute[local go_sem] eE eD eC
variable{ins bs:List Int}{am w H B ax:World}{ss:List Ste}{g p n l h:Nat}{v:Value}{b:Nat->Bool}
theorem kX{a off len}(h:jA ss n a off len=true):0<=off/\off<=a-len:=by
 unfold jA at h;simp only[Bool.and_eq_true]at h;exact of_decide_eq_true h.1
theorem CO{a8 aL}(h:iG ins ss a8 aL=true):SvOK ins ss a8 aL:=by
 unfold iG at h;simp only[Bool.and_eq_true]at h;obtain⟨⟨ai,aw⟩,ho⟩:=h;unfold kV at ai;simp only[Bool.and_eq_true,decide_eq_true_eq]at ai;obtain⟨⟨⟨⟨F,h2⟩,h3⟩,h4⟩,bK⟩:=ai;refine⟨F,h2,by omega,?_,?_,?_,by omega⟩
 ·intro y bp;have:=List.all_eq_true.1 h4 y bp;have:=of_decide_eq_true this;omega
 ·intro k O;have hb:=sr bK.2 aw k O;have b3:=List.all_eq_true.1 aw k (List.mem_range.2 O);unfold iA at b3;simp only[Bool.and_eq_true]at b3;obtain⟨ba,_,ht⟩:=b3;generalize ss.getD k _=s at hb ba ht;have b4:=tE ba;refine⟨⟨b4.1,by omega⟩,?_⟩
  have a:∀p∈eY s,0<=p.off/\p.off<=50000:=λp aQ=>by
   have bZ:=List.all_eq_true.1 ht p aQ
   unfold jB at bZ
   simp only[Bool.and_eq_true]at bZ
   have ar:=kX bZ.1
   have ae:=qd ba aQ
   omega
  have ag:0<=s.n/\s.n<=1000:=by
   by_cases al:0<cnt s.op
   ·have:=uI ba al;omega
   grind[fA]
  have be:0<cnt s.op->0<=s.a/\s.a<=50000:=λal=>a ⟨_,s.n⟩ (by grind[eY,cnt]);have a7:1<cnt s.op->0<=s.b/\s.b<=50000:=λal=>a ⟨_,s.len⟩ (by grind[eY,cnt]);have aj:2<cnt s.op->0<=s.c/\s.c<=50000:=λal=>a ⟨_,s.len⟩ (by grind[eY,cnt]);have S:fF (jU s)=true:=by grind[fA]
  unfold fF jU at S;simp at S;obtain⟨⟨d,f⟩,bg⟩:=S
  have d7:0<=s.a/\s.a<=50000:=by
   by_cases al:0<cnt s.op
   ·exact be al
   by_cases ak:s.op=0
   ·unfold fA at ba;rw[h7 ak]at ba;simp only[Bool.and_eq_true]at ba;have:=of_decide_eq_true ba.2.1;omega
   omega
  have dc:0<=s.b/\s.b<=50000:=xaa;have e:0<=s.c/\s.c<=50000:=by grind[g7,qb,eQ,lenB,gm]
  intro y bp;simp[fw]at bp;omega
 intro k O;have ao:a8.getD k Spn.zero∈a8:=by simp_all
 have:=List.all_eq_true.1 ho _ ao;unfold oe at this;simp only[Bool.and_eq_true]at this;have bZ:=of_decide_eq_true this.1;have ar:=kX this.2;omega
structure SvI(w2 W:World)(v:Value)(bs:List Int):Prop where
 r:YB W w2.heap.size v bs
 k:Kept 0 0 w2 W
theorem SvI.size{W}(f:SvI am W v bs):am.heap.size<=W.heap.size:=f.k.size
theorem SvI.next{W v' x}(f:SvI am W v bs)(an:Kept 0 0 W ax)(h:YB B am.heap.size v' x)(al:Chg (λb=>v.ownBlock=some b) ax B):SvI am B v' x:=
 ⟨h,Chg.kept (f.k.trans an) al (λ_ hi=>(f.r.blk hi).1)⟩
theorem SvI.keep{W}(f:SvI am W v bs)(an:Kept 0 0 W ax):SvI am ax v bs:=⟨f.r.keep an,f.k.trans an⟩
theorem px(w I v)(bs xs:List Int)(cs n)(f:YB w I v bs)(al:cs.toList=xs.map (Value.int .i64))(ag:xs.length=n)(ai:n<=10)(ap:∀y∈xs,0<=y/\y<65536)(hb:bs.length<=1000000)(a7:I<=w.heap.size):
  Calls prog 35 #[v,h0 w.heap.size n n] (w.alloc (.cells cs 3)) (OD (w.alloc (.cells cs 3)) I v (bs++xs.flatMap it)):=by
 have bj:=eA 0 0 w (.cells cs 3);refine qf _ I v _ _ _ n n _ (w.heap.size+1) (f.keep bj) ⟨ag,.inr ⟨_,0,rfl,yad,yaf,by simp,λk O=>?_⟩⟩ (λg F h2 h3=>?_) ap hb xaa (yao a7 bj.size)
 ·rw[Nat.zero_add,yav,<-Array.getElem?_toList,al,List.getElem?_map,yam xaa,yai,yam xaa];rfl
 have:=(f.blk h3).2;omega
theorem AtT.keepC{S v}(a:AtT w g 0 v)(aK:g<w.heap.size)(k:Chg S w B)(aO:¬S g):AtT B g 0 v:=by
 have e:∀o,_:=λo=>k.cell (p:=⟨g,o,none⟩) aK aO;obtain⟨c0,c1,c2,c3,c4,c5,cd,ce⟩:=a;exact⟨by grind,by grind,by grind,by grind,by grind,by grind,by grind,by grind⟩
theorem jD(w:World)(v):AtT (w.alloc v.box) w.heap.size 0 v:=by
 constructor;all_goals first|(go_simp;done)|(simp;done)
theorem py(w)(p:Spn)(h:-1000000<=p.off+p.len/\p.off+p.len<=1000000):
  Calls prog 59 #[p.agg] w λe B=>e=.returned (h1 (p.off+p.len))/\Kept 0 0 w B:=by
 have X:IntKind.i64.wrap (p.off+p.len)=p.off+p.len:=by rw[IntKind.wrap_i64];omega
 go_enter func59,ntmps59;go_wp2;go_ret;exact⟨rfl,eA _ _ _ _⟩
theorem yv(w)(p:Spn)(c)(F:1<=p.len)(h2:p.len<=1000)(h3:0<=c)(h4:c<=1000000):
  Calls prog 57 #[p.agg,h1 c] w λe B=>e=.returned (.bool (kM p.off p.len c))/\Kept 0 0 w B:=by
 have X:IntKind.i64.wrap (c-p.len)=c-p.len:=by rw[IntKind.wrap_i64];omega
 by_cases u:0<=p.off
 ·by_cases u2:p.off<=c-p.len
  ·rw[show kM _ _ c=true from decide_eq_true ⟨u,u2⟩];exact xfv
  rw[show kM _ _ c=false from yay (λc=>u2 c.2)];have N:=yay u2;exact xfv
 rw[show kM _ _ c=false from yay (λc=>u c.1)];have ah:=yay u;exact xfv
structure BL(w:World)(g n:Nat)(b:Nat->Bool):Prop where
 lt:g<w.heap.size
 at_:∀k,k<n->w.cell? ⟨g,k,none⟩=some (.bool (b k))
 free:∀o,w.frozen? ⟨g,o,none⟩=false
theorem BL.keep(f:BL w g n b)(k:Kept l h w B)(aO:g<l\/h<=g\/h<=l):BL B g n b:=
 ⟨yak f.lt k.size,λi hi=>by rw[k.cell f.lt (by show ¬(l<=g/\g<h);omega)];exact f.at_ i hi,λo=>by rw[k.frozen f.lt (by show ¬(l<=g/\g<h);omega)];exact f.free o⟩
theorem BL.congr{S}(f:BL w g n b)(h:∀k,k<n->b k=S k):BL w g n S:=⟨f.lt,λk O=>by rw[<-h k O];exact f.at_ k O,f.free⟩
theorem BL.set(f:BL w g n b)(k)(O:k<n):BL (w.setCell ⟨g,k,none⟩ (.bool true)) g n (λj=>if j=k then true else b j):=by
 refine⟨by simpa using f.lt,λj hj=>?_,λo=>by simp[f.free o]⟩;by_cases e:j=k
 ·subst e;rw[h7 rfl];exact fy _ _ _ _ _ (f.at_ j hj)
 rw[h6 e,eV _ _ _ _ _ _ (.inr (λc=>e c.symm))];exact f.at_ j hj
theorem BI(w g off n cap b)(ag:n<=1000)(al:∀k,k<n->w.cell? ⟨g,off+k,none⟩=some (.bool (b k))):
  Calls prog 74 #[.slice (some ⟨g,off,none⟩) n cap,.bool false] w λe B=>(∃r:Int,e=.returned (h1 r)/\decide (0<=r)=!((List.range n).all b))/\w=B:=by
 have bf:V _:=al;clear al;go_enter func74,ntmps74;go_wp2_with fail;go_loop [8] (λi=>∃k:Nat,k<=n/\i=h1 k/\V ((List.range k).all b=true)) (λi=>n-(intOf i).toNat)
 case atStart=>exact⟨0,yae,rfl,rfl⟩
 case round=>
  obtain⟨k,O,rfl,be⟩:=hrel;by_cases hlt:k<n
  ·have c:=bf.o k hlt;cases t:b k
   ·have R:V _:=jh hlt t;rw[t]at c;clear be;go_wp2;go_ret;exact⟨⟨k,rfl,by rw[R.o];simp⟩,rfl⟩
   have R:V _:=ig be.o t;rw[t]at c;exact xhi
  have R:V ((List.range n).all b=true):=by
   have:=be.o;rw[show k=n by omega]at this;exact this
  clear be;go_wp2;go_ret;exact⟨⟨_,rfl,by rw[R.o];decide⟩,rfl⟩
theorem vD(w g off n cap b)(ag:n<=1000)(al:∀k,k<n->w.cell? ⟨g,off+k,none⟩=some (.bool (b k))):
  Calls prog 60 #[.slice (some ⟨g,off,none⟩) n cap,.bool false] w λe B=>e=.returned (.bool (!((List.range n).all b)))/\w=B:=by
 have HX:V _:=BI w g _ n cap b ag al;clear al;go_enter func60,ntmps60;go_wp2_with fail;refine yaj HX.o ?_;rintro e am ⟨⟨r,rfl,aF⟩,rfl⟩;go_wp2;go_ret;exact⟨by rw[<-aF];rfl,rfl⟩
theorem kE(w:World)(p):AtP (w.alloc p.box) w.heap.size 0 p:=by
 refine⟨?_,?_⟩;all_goals first|(go_simp;done)|(simp;done)
theorem Lf(w g n cap b)(ag:n<=50000)(aF:n<=cap)(f:BL w g n b)(o m)(F:1<=m)(h2:m<=1000)(h3:o+m<=n):
  Calls prog 31 #[h0 g n cap,(Spn.mk (o:Int) (m:Int)).agg] w λe B=>e=.returned (.bool ((List.range m).all λj=>b (o+j)))/\Kept 0 0 w B:=by
 have aG:=eA 0 0 w (Spn.mk o m).box;have a7:=kE w (Spn.mk o m);have aD:V _:=f.keep aG yaa;have HK:V _:=aG;have T:V _:=a7;have d:V (w.heap.size<(w.alloc (Spn.mk o m).box).heap.size):=by show _<_;simp
 obtain⟨aP,ay⟩:=a7;rw[Nat.zero_add]at ay
 have bE:V _:=λw=>by
  have:=yv w (Spn.mk (o:Int) (m:Int)) (n:Int) (by show(1:Int)<=(m:Int);omega) (by show(m:Int)<=1000;omega) xaa xaa
  rw[show kM (o:Int) (m:Int) (n:Int)=true from decide_eq_true ⟨by omega,by omega⟩]at this
  exact this
 have HE:V (∀w,Calls _ _ _ w λe B=>e=.returned (.int _ (o+m))/\Kept 0 0 w _):=λw=>py w (Spn.mk o _) (by show -1000000<=(o:Int)+m/\(o:Int)+m<=1000000;omega);have bf:V (∀B t,Kept 0 0 _ B->_):=λB t k=>vD _ g o m t _ h2 (λj hj=>(aD.o.keep k yaa).at_ _ xaa);clear f aG;generalize ((List.range m).all _)=z at bf⊢;go_enter func31,ntmps31;go_wp2_with fail;generalize w.alloc _=aH at aD HK T d bf aP ay⊢
 go_region_with
  (first
   |(go_at_call 60;refine yaj (bf.o _ _ C) ?_;rintro e bA ⟨rfl,rfl⟩)
   |(go_at_call 59;refine yaj (HE.o _) ?_;rintro e aU ⟨rfl,aZ⟩;have C:=Kept.trans P aZ;obtain⟨bl,aS⟩:=AtP.keep T.o d.o C yaa;rw[Nat.zero_add]at aS)
   |(go_at_call 57;refine yaj (bE.o _) ?_;rintro e am ⟨rfl,av⟩;have P:=Kept.trans (eH 0 0 _ 1) av;obtain⟨aY,ar⟩:=AtP.keep T.o d.o P yaa;rw[Nat.zero_add]at ar))
 all_goals
  go_wp2
  go_ret
  exact⟨by cases z<;>rfl,Kept.trans HK.o C⟩
theorem Hp(w)(g n cap:Nat)(ag:n<=50000)(p:Spn)(F:1<=p.len)(h2:p.len<=1000)(h3:kM p.off p.len n=false):
  Calls prog 31 #[h0 g n cap,p.agg] w λe B=>e=.returned (.bool false)/\Kept 0 0 w B:=by
 have aG:=eA 0 0 w p.box;have a7:=kE w p;have HK:V _:=aG;have T:V _:=a7;have d:V (w.heap.size<(w.alloc p.box).heap.size):=by show _<_;simp
 obtain⟨aP,ay⟩:=a7;rw[Nat.zero_add]at ay
 have bE:V _:=λw=>by
  have:=yv w p (n:Int) F h2 xaa xaa
  rw[h3]at this
  exact this
 clear aG;go_enter func31,ntmps31;go_wp2_with fail;generalize w.alloc _=aH at HK T d aP ay⊢;first|(go_region_with (go_at_call 57;refine yaj (bE.o _) ?_;rintro e am ⟨rfl,av⟩;have P:=Kept.trans (eH 0 0 _ 1) av;obtain⟨aY,ar⟩:=AtP.keep T.o d.o P yaa;rw[Nat.zero_add]at ar))|fail
 all_goals
  go_wp2
  go_ret
  exact⟨rfl,Kept.trans HK.o (Kept.trans (eH 0 0 _ 1) av)⟩
theorem Qj(w g n cap ss i)(ag:n<=50000)(aF:n<=cap)(f:BL w g n (λk=>fZ ss i (k:Nat)))(p:Spn)(F:1<=p.len)(h2:p.len<=1000):
  Calls prog 31 #[h0 g n cap,p.agg] w λe B=>e=.returned (.bool (jA ss i n p.off p.len))/\Kept 0 0 w B:=by
 cases h3:kM p.off p.len n
 ·have e:jA ss i n p.off p.len=false:=by unfold jA;rw[h3];rfl
  rw[e];exact Hp w g n _ ag p F h2 h3
 have h4:=of_decide_eq_true h3;obtain⟨off,len⟩:=p;simp only at F h2 h4⊢;obtain⟨o,rfl⟩:=Int.eq_ofNat_of_zero_le h4.1;obtain⟨m,rfl⟩:=Int.eq_ofNat_of_zero_le (by omega:0<=len)
 have e:jA ss i n (o:Int) (m:Int)=((List.range m).all λj=>fZ ss i ((o+j:Nat):Int)):=by
  unfold jA;rw[h3,Int.toNat_natCast,Bool.true_and];congr 1
 rw[e];exact Lf w g n _ _ ag aF f o m xaa xaa xaa
theorem Qk(w)(s p:Spn)(F:-1000000<=s.off+s.len/\s.off+s.len<=1000000)(h2:-1000000<=p.off+p.len/\p.off+p.len<=1000000):
  Calls prog 58 #[s.agg,p.agg] w λe B=>e=.returned (.bool (decide (s.off<p.off+p.len/\p.off<s.off+s.len)))/\Kept 0 0 w B:=by
 have aG:=(eA 0 0 w s.box).trans (eA 0 0 _ p.box);have a5:(w.alloc s.box).heap.size=w.heap.size+1:=by simp
 have ak:=(kE w s).keep xac (eA 0 0 _ p.box) yaa;have bC:=kE (w.alloc s.box) p;rw[a5]at bC;have HK:V _:=aG;have Z:V _:=ak;have y:V _:=bC;have HZ:V (w.heap.size+1<((w.alloc s.box).alloc p.box).heap.size):=by show _<_;simp
 have f:V _:=λw=>py w s F;have a6:V _:=λw=>py w p h2;obtain⟨aP,ay⟩:=ak;obtain⟨bq,aq⟩:=bC;rw[Nat.zero_add]at ay aq;clear aG a5;by_cases u:s.off<p.off+p.len
 ·have HR:V (decide (s.off<p.off+p.len/\p.off<s.off+s.len)=decide (p.off<s.off+s.len)):=by
   show _=_;rw[Bool.eq_iff_iff];simp[u]
  have ah:=decide_eq_true u;go_enter func58,ntmps58;go_wp2_with fail;generalize (w.alloc _).alloc _=aH at HK Z y HZ aP ay bq aq⊢
  go_region_held3 (λB=>B.cell? ⟨w.heap.size,0,none⟩=some (h1 s.off)/\B.cell? ⟨w.heap.size,1,none⟩=some (h1 s.len)/\B.cell? ⟨w.heap.size+1,0,none⟩=some (h1 p.off)/\B.cell? ⟨w.heap.size+1,1,none⟩=some (h1 p.len)) (go_keep) (first
   |(go_at_call 59;refine yaj (f.o _) ?_;rintro e aU ⟨rfl,aZ⟩;have C:=Kept.trans P aZ;obtain⟨cF,m1⟩:=AtP.keep Z.o (ix HZ.o) C yaa;obtain⟨bQ,b6⟩:=AtP.keep y.o HZ.o C yaa;rw[Nat.zero_add]at m1 b6)
   |(go_at_call 59;refine yaj (a6.o _) ?_;rintro e am ⟨rfl,av⟩;have P:=Kept.trans (eH 0 0 _ 1) av;obtain⟨aY,ar⟩:=AtP.keep Z.o (ix HZ.o) P yaa;obtain⟨bl,aS⟩:=AtP.keep y.o HZ.o P yaa;rw[Nat.zero_add]at ar aS))
  all_goals
   go_wp2
   go_ret
   exact⟨i4 HR.o,Kept.trans HK.o C⟩
 have HR:V (decide (s.off<p.off+p.len/\p.off<s.off+s.len)=false):=yay (λc=>u c.1);have ah:=yay u;go_enter func58,ntmps58;go_wp2_with fail;generalize (w.alloc _).alloc _=aH at HK Z y HZ aP ay bq aq⊢;first|(go_region_with (go_at_call 59;refine yaj (a6.o _) ?_;rintro e am ⟨rfl,av⟩;have P:=Kept.trans (eH 0 0 _ 1) av;obtain⟨aY,ar⟩:=AtP.keep Z.o (ix HZ.o) P yaa;obtain⟨bl,aS⟩:=AtP.keep y.o HZ.o P yaa;rw[Nat.zero_add]at ar aS))|fail
 all_goals
  go_wp2
  go_ret
  exact⟨i4 HR.o,Kept.trans HK.o P⟩
def lP(s:Ste)(k:Nat):Int:=if k=0 then s.a else if k=1 then s.b else s.c
def mN(s:Ste)(k:Nat):Int:=if k=0 then s.n else s.len
theorem yw(w s)(k:Nat)(O:k<3):
  Calls prog 20 #[s.agg,h1 k] w λe B=>e=.returned (h1 (lP s k))/\Kept 0 0 w B:=by
 rcases (by omega:k=0\/k=1\/k=2) with rfl|rfl|rfl
 all_goals
  go_enter func20,ntmps20
  go_wp2
  go_ret
  exact⟨rfl,eA _ _ _ _⟩
theorem Hq(w s)(k:Nat)(O:k<3):
  Calls prog 21 #[s.agg,h1 k] w λe B=>e=.returned (h1 (mN s k))/\Kept 0 0 w B:=by
 rcases (by omega:k=0\/k=1\/k=2) with rfl|rfl|rfl
 all_goals
  go_enter func21,ntmps21
  go_wp2
  go_ret
  exact⟨rfl,eA _ _ _ _⟩
theorem qg{s k}(O:k<cnt s.op):∃p,(eY s)[k]? =some p/\p.off=lP s k/\p.len=mN s k:=by
 have:=gK s.op;unfold eY;rw[List.getElem?_take_of_lt O];rcases (by omega:k=0\/k=1\/k=2) with rfl|rfl|rfl
 ·exact⟨_,rfl,rfl,rfl⟩
 ·exact⟨_,rfl,rfl,rfl⟩
 exact⟨_,rfl,rfl,rfl⟩
def mG(s:Ste)(k:Nat):Bool:=if k=0 then !((decide (cnt s.op<1)&&s.op !=0)&&s.a !=0)else if k=1 then !(decide (cnt s.op<2)&&s.b !=0)else !((decide (cnt s.op<3)&&!g7 s.op)&&s.c !=0)
theorem pz(s):fF (jU s)=(List.range 3).all (mG s):=by
 have e:(List.range 3).all _=(mG s 0&&(mG s 1&&(mG s 2&&true))):=rfl;rw[e];show(!(((decide (cnt s.op<1)&&s.op !=0)&&s.a !=0)||(decide (cnt s.op<2)&&s.b !=0)||((decide (cnt s.op<3)&&!g7 s.op)&&s.c !=0)))=((!((decide (cnt s.op<1)&&s.op !=0)&&s.a !=0))&&((!(decide (cnt s.op<2)&&s.b !=0))&&((!((decide (cnt s.op<3)&&!g7 s.op)&&s.c !=0))&&true)));grind
theorem Hr{s k}(h:k<cnt s.op):mG s k=true:=by
 grind[mG]
theorem Ao(s):(List.range (cnt s.op)).all (mG s)=true:=by
 simp_all[Hr]
theorem OE{s}(h:cnt s.op<=0):mG s 0=!(!(s.op==0)&&(s.a !=0)):=by
 grind[mG]
theorem OF{s}(h:cnt s.op<=1):mG s 1=!(s.b !=0):=by
 grind[mG]
theorem OG{s}(h:cnt s.op<=2):mG s 2=!(!((s.op==11)||(s.op==12))&&(s.c !=0)):=by
 grind[mG,g7]
theorem Hs{s}(h:¬(0<=s.op/\s.op<=13/\1<=s.len/\s.len<=1000)):fA ins s=false:=by
 cases ba:fA ins s
 ·rfl
 have:=jV ba;have:=tE ba;omega
theorem nJ{s}(h:fF (jU s)=false):fA ins s=false:=by
 unfold fA;grind
theorem BJ(w a1 J a3 Z c1 ae c2 ab c3 aL)(s:Ste)(h:¬(0<=s.op/\s.op<=13/\1<=s.len/\s.len<=1000)):
  Calls prog 18 #[iQ a1 Z c1 J ae c2 a3 ab c3 aL,s.agg] w λe B=>e=.returned (.bool false)/\Kept 0 0 w B:=by
 have aG:=(eA 0 0 w (iE a1 Z c1 J ae c2 a3 ab c3 aL)).trans (eA 0 0 _ s.box);by_cases cg:s.op<0
 ·exact xey
 have bL:=yay cg;by_cases a1:13<s.op
 ·exact xey
 have U:=yay a1;by_cases J:s.len<1
 ·exact xey
 have aV:=yay J;have a3:1000<s.len:=xaa;exact xey
theorem Ht(w op len A I C S X f K)(F:2<=op)(aq:op<=13)(ci:1<=len)(cz:len<=1000)(ag:S<0):
  Calls prog 47 #[lK op len A I C K,h1 S,h1 X,h1 f] w λe B=>e=.returned (.bool false)/\B=w.alloc (fW op len A I C K):=by
 have bL:(S==len)=false:=yan xaa;have U:(S==1)=false:=yan xaa;have aV:decide (1<=S)=false:=yay xaa;have HE:V _:=λw=>Br _ w xaa aq;have HO:V _:=λw=>jr _ w xaa aq;rcases (by omega:op=2\/op=3\/op=4\/op=5\/op=6\/op=7\/op=8\/op=9\/op=10\/op=11\/op=12\/op=13) with rfl|rfl|rfl|rfl|rfl|rfl|rfl|rfl|rfl|rfl|rfl|rfl
 all_goals
  cases c1:(len==1)
  all_goals
   go_enter func47,ntmps47
   go_wp2_with (first|(go_at_call 68;refine(HE.o _).mono ?_;rintro e am ⟨rfl,rfl⟩;simp only[ud])|(go_at_call 19;refine(HO.o _).mono ?_;rintro e am ⟨rfl,rfl⟩;simp only[sI]))
   go_ret
   exact⟨rfl,rfl⟩
structure CSB(W:World)(p:Nat)(b0 b1 b2 b3:Value)(s:Ste):Prop where
 c:C0 W p b0 b1 b2 b3
 lt:p+1<W.heap.size
 s:AtT W (p+1) 0 s
theorem CSB.keep{W bL U aV aa s}(t:CSB W p bL U aV aa s)(k:Kept 0 0 W H):CSB H p bL U aV aa s:=
 ⟨t.c.keep k,yak t.lt k.size,t.s.keep t.lt k yaa⟩
theorem Em(w:World)(bL U aV aa s):CSB ((w.alloc (.cells #[bL,U,aV,aa] 27)).alloc s.box) w.heap.size bL U aV aa s:=by
 have F:(w.alloc (.cells #[bL,U,aV,aa] 27)).heap.size=w.heap.size+1:=by simp
 refine⟨(iX w _ _ _ _).keep (eA 0 0 _ _),by simp,?_⟩;have:=jD (w.alloc (.cells #[bL,U,aV,aa] 27)) s;grind
theorem Eo(w lo hi a1 J a3 Z c1 ae c2 ab c3 aL s ins)(f:IS w lo hi a1 Z ins)(az:0<=s.op)(b5:s.op<=13)(a0:1<=s.len)(b9:s.len<=1000):
  Calls prog 18 #[iQ a1 Z c1 J ae c2 a3 ab c3 aL,s.agg] w λe B=>e=.returned (.bool (fA ins s))/\Kept 0 0 w B:=by
 have aG:=(eA 0 0 w (iE a1 Z c1 J ae c2 a3 ab c3 aL)).trans (eA 0 0 _ s.box);have T:V _:=Em w (.slice a1 Z c1) (.slice J ae c2) (.slice a3 ab c3) (h1 aL) s
 have HO:V _:=λw=>by
  have:=jr s.op w az b5
  rw[F2 az b5]at this
  exact this
 have aD:V _:=f;have HK:V _:=aG;have cA:=gK s.op;have m:V _:=iV a0 b9;clear aG f;go_enter func18,ntmps18;go_wp2_with (first|(go_at_call 19;refine(HO.o _).mono ?_;rintro e am ⟨rfl,rfl⟩)|fail);generalize (w.alloc _).alloc _=aH at T HK⊢;go_loopw [6] (λi W=>∃k:Nat,cnt s.op<=k/\k<=3/\i=h1 k/\V ((List.range k).all (mG s)=true)/\V (Kept 0 0 aH W)) (λi _=>3-(intOf i).toNat)
 case atStart=>exact⟨_,yad,cA,rfl,Ao s,Kept.refl _ _ _⟩
 case round=>
  obtain⟨k,bE,O,rfl,be,G⟩:=hrel;obtain⟨⟨_,aP,ay,aB,bz⟩,_,⟨bR,aM,bi,aI,r,aC,a7,bT⟩⟩:=T.o.keep G.o;simp only[Nat.zero_add]at aM bi aI r aC a7 bT;by_cases hlt:k<3
  ·have HX:V _:=yw wr s k hlt;rcases (by omega:k=0\/k=1\/k=2) with rfl|rfl|rfl
   ·have e:=OE bE;cases t:(s.op==0)<;>cases u:(s.a !=0)
    all_goals
     rw[t,u]at e
     go_wp2_with fail
     refine yaj HX.o ?_
     rintro U am ⟨rfl,bM⟩
     have R2:V _:=Kept.trans G.o bM
     have R3:V _:=Kept.trans HK.o R2.o
     rw[show lP s 0=s.a from rfl]
     clear HX bM aP ay aB bz bR aM bi aI r aC a7 bT
     first
     |(have R:V _:=ig be.o e
       go_wp2
       go_roundw
       case rel=>exact⟨1,by omega,by omega,by go_num,R,R2⟩
       case measure=>simp[intOf])
     |(have R:V (fA ins s=false):=nJ (by rw[pz];exact jh xaa e)
       go_wp2
       go_ret
       exact⟨i4 R.o,R3.o⟩)
   ·have e:=OF bE;cases u:(s.b !=0)
    all_goals
     rw[u]at e
     go_wp2_with fail
     refine yaj HX.o ?_
     rintro U am ⟨rfl,bM⟩
     have R2:V _:=Kept.trans G.o bM
     have R3:V _:=Kept.trans HK.o R2.o
     rw[show lP s 1=s.b from rfl]
     clear HX bM aP ay aB bz bR aM bi aI r aC a7 bT
     first
     |(have R:V _:=ig be.o e
       go_wp2
       go_roundw
       case rel=>exact⟨2,by omega,by omega,by go_num,R,R2⟩
       case measure=>simp[intOf])
     |(have R:V (fA ins s=false):=nJ (by rw[pz];exact jh xaa e)
       go_wp2
       go_ret
       exact⟨i4 R.o,R3.o⟩)
   have e:=OG bE;cases t:(s.op==11)<;>cases S:(s.op==12)<;>cases u:(s.c !=0)
   all_goals
    rw[t,S,u]at e
    go_wp2_with fail
    refine yaj HX.o ?_
    rintro U am ⟨rfl,bM⟩
    have R2:V _:=Kept.trans G.o bM
    have R3:V _:=Kept.trans HK.o R2.o
    rw[show lP s 2=s.c from rfl]
    clear HX bM aP ay aB bz bR aM bi aI r aC a7 bT
    first
    |(have R:V _:=ig be.o e
      go_wp2
      go_roundw
      case rel=>exact⟨3,by omega,by omega,by go_num,R,R2⟩
      case measure=>simp[intOf])
    |(have R:V (fA ins s=false):=nJ (by rw[pz];exact jh xaa e)
      go_wp2
      go_ret
      exact⟨i4 R.o,R3.o⟩)
  have a2:fF (jU s)=true:=by rw[pz];have:=be.o;rw[show k=3 by omega]at this;exact this
  have R3:V _:=Kept.trans HK.o G.o
  have HQ:V (fA ins s=((!(decide (cnt s.op=0)&&s.n !=0))&&(if s.op=0 then gm s.a ins.length&&ins.getD s.a.toNat 0==s.len else eQ s.op s.len s.c ([s.n,s.len,s.len].take (cnt s.op))))):=by
   show _=_;unfold fA;rw[m.o,a2];simp
  have I:V _:=IS.keep aD.o R3.o yaa;clear be G a2;by_cases ak:s.op=0
  ·have bl:=beq_iff_eq.2 ak;have aV:=I.o.len
   have a:fA ins s=((s.n==0)&&(gm s.a Z&&ins.getD s.a.toNat 0==s.len)):=by
    rw[HQ.o,h7 ak,ak,aV];show(!(true&&!(s.n==0))&&_)=_;generalize (s.n==0)=b;cases b<;>rfl
   clear HQ;cases u0:(s.n==0)
   ·have z:V (fA ins s=false):=by show _=_;rw[a,u0];rfl
    exact xed
   by_cases u1:0<=s.a
   ·by_cases u2:s.a<Z
    ·have C:gm _ _=true:=decide_eq_true ⟨u1,u2⟩;rcases I.o.at_ with bP|⟨d,bL,bS,aR,bd,bu,bC⟩
     ·omega
     have c:=bC s.a.toNat xaa;obtain⟨j,hj⟩:∃j:Nat,s.a=j:=⟨s.a.toNat,by omega⟩
     have z:V (fA ins s=(ins.getD j 0==s.len)):=by show _=_;rw[a,u0,C,hj];rfl
     subst bS;rw[hj]at c r u2;rw[Int.toNat_natCast]at c;generalize ins.getD j 0=y at c z;have cJ:j<Z:=xaa;clear aR bd bu bC u1 C hj a;exact xdg
    have z:V (fA ins s=false):=by show _=_;rw[a,show gm _ _=false from yay (λc=>u2 c.2)];simp
    have N:=yay u2;have K:=decide_eq_true u1;exact xed
   have z:V (fA ins s=false):=by show _=_;rw[a,show gm _ _=false from yay (λc=>u1 c.1)];simp
   have K:=yay u1;exact xed
  have bl:=yan ak;by_cases F:s.op=1
  ·have aS:=beq_iff_eq.2 F
   have a:fA ins s=(s.n==0):=by
    rw[HQ.o,h6 ak,F];show(!(true&&!(s.n==0))&&true)=_;generalize (s.n==0)=b;cases b<;>rfl
   have z:V _:=a;clear a HQ;go_wp2;go_ret;exact⟨i4 z.o,R3.o⟩
  have aS:=yan F
  have aW:0<cnt s.op:=by
   rcases (by omega:s.op=2\/s.op=3\/s.op=4\/s.op=5\/s.op=6\/s.op=7\/s.op=8\/s.op=9\/s.op=10\/s.op=11\/s.op=12\/s.op=13) with e|e|e|e|e|e|e|e|e|e|e|e<;>rw[e]<;>decide
  have a:fA ins s=eQ s.op s.len s.c ([s.n,s.len,s.len].take (cnt s.op)):=by
   rw[HQ.o,h6 ak,yay xaa];simp
  clear HQ;by_cases ag:0<=s.n
  ·have HL:V _:=xF wr s.op s.len 0 0 s.c 0 s.n.toNat s.len.toNat s.len.toNat;rw[Int.toNat_of_nonneg ag,Int.toNat_of_nonneg xaa]at HL
   have x:jQ s.op s.len s.c s.n.toNat s.len.toNat s.len.toNat=eQ s.op s.len s.c ([s.n,s.len,s.len].take (cnt s.op)):=by
    unfold jQ;rw[m.o,Int.toNat_of_nonneg ag,Int.toNat_of_nonneg xaa,Bool.true_and]
   rw[x,<-a]at HL;clear x a;go_wp2_with fail;refine yaj HL.o ?_;rintro e am ⟨rfl,rfl⟩;go_wp2;go_ret;exact⟨rfl,Kept.trans R3.o (eA 0 0 _ _)⟩
  have HL:V _:=Ht wr _ _ 0 0 s.c s.n s.len s.len 0 xaa b5 a0 b9 xaa
  have x:eQ s.op s.len s.c ([s.n,s.len,s.len].take (cnt s.op))=false:=by
   cases hb:eQ s.op s.len s.c ([s.n,s.len,s.len].take (cnt s.op))
   ·rfl
   have ba:fA ins s=true:=i1 a hb
   have:=uI ba aW;omega
  have z:V (fA ins s=false):=by show _=_;rw[a,x]
  clear x a;go_wp2_with fail;refine yaj HL.o ?_;rintro e am ⟨rfl,rfl⟩;go_wp2;go_ret;exact⟨i4 z.o,Kept.trans R3.o (eA 0 0 _ _)⟩
theorem OH(w lo hi a1 J a3 Z c1 ae c2 ab c3 aL s ins)(f:IS w lo hi a1 Z ins):
  Calls prog 18 #[iQ a1 Z c1 J ae c2 a3 ab c3 aL,s.agg] w λe B=>e=.returned (.bool (fA ins s))/\Kept 0 0 w B:=by
 by_cases h:0<=s.op/\s.op<=13/\1<=s.len/\s.len<=1000
 ·exact Eo w _ _ _ _ _ _ _ _ _ _ _ _ s _ f h.1 h.2.1 h.2.2.1 h.2.2.2
 rw[Hs h];exact BJ w _ _ _ _ _ _ _ _ _ _ s h
theorem M8(w s):
  Calls prog 52 #[s.agg] w λe B=>e=.returned (jU s).agg/\Kept 0 0 w B:=by
 go_enter func52,ntmps52;go_wp2;refine yaz (v:=(jU s).agg) (by simp[results,results52,go_sem,jU]) rfl ⟨rfl,?_⟩;exact(eA 0 0 w _).trans (eA 0 0 _ _)
abbrev mH(s:Ste):Value:=.agg #[.int .i64 s.dst,.int .i64 s.len,.int .i64 s.a]
abbrev qT(s:Ste)(G n:Nat):Value:=.agg #[.int .i64 s.dst,.int .i64 s.len,.int .i64 s.op,.int .i64 s.len,.int .i64 s.a,.int .i64 s.b,.int .i64 s.c,.float .f64 s.k,.slice (some ⟨G,0,none⟩) n 3]
theorem wu(w s)(h:s.op=0):
  Calls prog 29 #[s.agg] w λe B=>e=.returned (.iface 96 (mH s))/\Kept 0 0 w B:=by
 have t:=beq_iff_eq.2 h;go_enter func29,ntmps29;go_wp2;go_ret;exact⟨rfl,(eA 0 0 w _).trans (eA 0 0 _ _)⟩
structure SB(w:World)(G n:Nat)(ps:List Spn):Prop where
 lt:G<w.heap.size
 at_:∀k,k<n->AtP w G (k*2) (ps.getD k Spn.zero)
theorem SB.keep{G ps}(f:SB w G n ps)(k:Kept l h w B)(aO:G<l\/h<=G\/h<=l):SB B G n ps:=
 ⟨yak f.lt k.size,λi hi=>(f.at_ i hi).keep f.lt k aO⟩
abbrev Hu(s:Ste):Obj:=.cells #[.int .i64 s.a,.int .i64 s.n,.int .i64 s.b,.int .i64 s.len,.int .i64 s.c,.int .i64 s.len] 53
theorem Hv(w:World)(s):SB (w.alloc (Hu s)) w.heap.size (cnt s.op) (eY s):=by
 refine⟨by simp,λk O=>?_⟩;have al:=gK s.op
 have e:(eY s).getD k Spn.zero=[⟨s.a,s.n⟩,⟨s.b,s.len⟩,⟨s.c,s.len⟩].getD k Spn.zero:=by
  unfold eY;grind
 rw[e];rcases (by omega:k=0\/k=1\/k=2) with rfl|rfl|rfl
 all_goals
  refine⟨?_,?_⟩
  all_goals first|(go_simp;done)|(simp;done)
theorem Ap(w s)(h:s.op≠0):
  Calls prog 29 #[s.agg] w λe B=>∃G,e=.returned (.iface 98 (qT s G (cnt s.op)))/\SB B G (cnt s.op) (eY s)/\w.heap.size<=G/\Kept 0 0 w B:=by
 have t:=yan h;have al:=gK s.op;have F:(w.alloc s.box).heap.size=w.heap.size+1:=by simp
 have h2:((w.alloc s.box).alloc (Spn.mk s.dst s.len).box).heap.size=w.heap.size+1+1:=by simp
 have bj:=(eA 0 0 (w.alloc s.box) (Spn.mk s.dst s.len).box).trans (eA 0 0 _ (Hu s));have HK:V _:=(eA 0 0 w _).trans bj;have T:V _:=(jD w s).keep xac bj yaa;have hP:=(kE (w.alloc s.box) (Spn.mk s.dst s.len)).keep xac (eA 0 0 _ (Hu s)) yaa;rw[F]at hP;have bZ:V _:=hP;have a2:=Hv ((w.alloc s.box).alloc (Spn.mk s.dst s.len).box) s;rw[h2]at a2;have au:V _:=a2;have bf:V _:=λw=>qq s.op w;have bX:V _:=λw=>M8 w s;clear bj F h2 hP a2;go_enter func29,ntmps29;go_wp2_with fail;have cq:(0:Int)<=(cnt s.op:Nat):=xaa;have cc:(cnt s.op:Nat)<=(3:Int):=xaa;obtain⟨bR,aM,bi,aI,r,aC,a7,bT⟩:=T.o;obtain⟨aP,ay⟩:=bZ.o;simp only[Nat.zero_add]at aM bi aI r aC a7 bT ay;have HZ:V _:=au.o.lt;generalize ((w.alloc _).alloc _).alloc _=aH at HK T bZ au HZ bR aM bi aI r aC a7 bT aP ay⊢
 go_region_held3 (λB=>B.cell? ⟨w.heap.size,0,none⟩=some (h1 s.op)/\B.cell? ⟨w.heap.size,1,none⟩=some (h1 s.len)/\B.cell? ⟨w.heap.size,2,none⟩=some (h1 s.n)/\B.cell? ⟨w.heap.size,3,none⟩=some (h1 s.dst)/\B.cell? ⟨w.heap.size,4,none⟩=some (h1 s.a)/\B.cell? ⟨w.heap.size,5,none⟩=some (h1 s.b)/\B.cell? ⟨w.heap.size,6,none⟩=some (h1 s.c)/\B.cell? ⟨w.heap.size,7,none⟩=some (.float .f64 s.k)/\B.cell? ⟨w.heap.size+1,0,none⟩=some (h1 s.dst)/\B.cell? ⟨w.heap.size+1,1,none⟩=some (h1 s.len)) (go_keep)
  (first
   |(go_at_call 54;refine yaj (bf.o _) ?_;rintro e aU ⟨rfl,rfl⟩)
   |(go_at_call 52;refine yaj (bX.o _) ?_;rintro e am ⟨rfl,av⟩;have P:=Kept.trans (eH 0 0 _ 1) av;obtain⟨cj,af,bg,ah,e4,ce,bb,a⟩:=AtT.keep T.o (ix HZ.o) P yaa;obtain⟨bq,aq⟩:=AtP.keep bZ.o (ix HZ.o) P yaa;simp only[Nat.zero_add]at af bg ah e4 ce bb a aq))
 all_goals
  go_wp2
  go_ret
  exact⟨_,rfl,au.o.keep P yaa,by omega,Kept.trans HK.o P⟩
structure FB(W:World)(p q:Nat)(s:Ste):Prop where
 sa:AtT W p 0 s
 va:At W q 0 (jU s)
 lp:p<W.heap.size
 lq:q<W.heap.size
theorem FB.keep{W q s}(t:FB W p q s)(k:Kept 0 0 W H):FB H p q s:=
 ⟨t.sa.keep t.lp k yaa,t.va.keep t.lq k yaa,yak t.lp k.size,yak t.lq k.size⟩
theorem is3(w:World)(x y z m)(ao:m<=3):IS (w.alloc (.cells #[h1 x,h1 y,h1 z] 3)) 0 (w.heap.size+1) (some ⟨w.heap.size,0,none⟩) m ([x,y,z].take m):=by
 refine⟨by simp;omega,.inr ⟨_,0,rfl,yae,by omega,by simp,λk O=>?_⟩⟩;rw[yai,List.getElem?_take_of_lt O,<-yai];rcases (by omega:k=0\/k=1\/k=2) with rfl|rfl|rfl<;>simp_all<;>grind
theorem Ep(w lo hi s a n cap ins)(f:IS w lo hi a n ins):
  Calls prog 27 #[s.agg,.slice a n cap] w λe B=>e=.returned (.bool (fA ins s))/\Kept 0 0 w B:=by
 have aD:V _:=f;have HL:V _:=f.len;have ad:=eA 0 0 w s.box;have G:V _:=jD w s;have hz0:w.heap.size<(w.alloc s.box).heap.size:=by simp
 have b8:V _:=λw=>gX s.len w;have au:V _:=λw=>zt w (jU s);have bf:V _:=λw=>qq s.op w;clear f;go_enter func27,ntmps27;go_wp2_with fail;refine(M8 _ s).mono ?_;rintro e aH ⟨rfl,an⟩;have bj:=eA 0 0 aH (fW (jU s).op (jU s).len (jU s).a (jU s).b (jU s).c (jU s).k);have T:V (FB _ _ _ s):=⟨G.o.keep hz0 (an.trans bj) yaa,mf aH _,by have:=an.size;simp at this⊢;omega,by simp⟩
 have HK:V _:=(ad.trans an).trans bj;obtain⟨⟨bR,aM,bi,aI,r,aC,a7,bT⟩,⟨aw,ba,bb,bc,bo,aF⟩,_,_⟩:=T.o;simp only[Nat.zero_add]at aM bi aI r aC a7 bT ba bb bc bo aF;clear ad an bj G hz0;go_wp2_with fail;generalize F:aH.heap.size=Q at T aw ba bb bc bo aF⊢;generalize aH.alloc _=am at T HK bR aM bi aI r aC a7 bT aw ba bb bc bo aF⊢;clear F;refine(b8.o _).mono ?_;rintro e aU ⟨rfl,rfl⟩;cases ah:lenB s.len
 ·have R:V (fA ins s=false):=by show _=_;unfold fA;rw[ah];simp
  go_wp2;go_ret;exact⟨i4 R.o,HK.o⟩
 go_wp2_with fail;refine(au.o _).mono ?_;rintro e bA ⟨rfl,bW⟩;replace T:V _:=T.o.keep bW;replace HK:V _:=Kept.trans HK.o bW;clear bW bR aM bi aI r aC a7 bT aw ba bb bc bo aF;obtain⟨⟨bR,aM,bi,aI,r,aC,a7,bT⟩,⟨aw,ba,bb,bc,bo,aF⟩,_,_⟩:=T.o;simp only[Nat.zero_add]at aM bi aI r aC a7 bT ba bb bc bo aF;cases ts:fF (jU s)
 ·have R:V (fA ins s=false):=nJ ts;go_wp2;go_ret;exact⟨i4 R.o,HK.o⟩
 have HQ:V (fA ins s=((!(decide (cnt s.op=0)&&s.n !=0))&&(if s.op=0 then gm s.a ins.length&&ins.getD s.a.toNat 0==s.len else eQ s.op s.len s.c ([s.n,s.len,s.len].take (cnt s.op))))):=by
  show _=_;unfold fA;rw[ah,ts];simp
 go_wp2_with fail;refine(bf.o _).mono ?_;rintro e bD ⟨rfl,rfl⟩;have cA:=gK s.op;cases S:decide (cnt s.op=0)&&s.n !=0
 case true=>
  have R:V (fA ins s=false):=by show _=_;rw[HQ.o,S];rfl
  have a9:cnt s.op=0/\(s.n !=0)=true:=by simp_all
  have bV:(((cnt s.op:Nat):Int)==0)=true:=by grind
  have cj:=a9.2;go_wp2;go_ret;exact⟨i4 R.o,HK.o⟩
 have al:V (fA ins s=(if s.op=0 then gm s.a ins.length&&ins.getD s.a.toNat 0==s.len else eQ s.op s.len s.c ([s.n,s.len,s.len].take (cnt s.op)))):=by
  show _=_;rw[HQ.o,S];rfl
 have C:V _:=S;clear HQ S;by_cases av:cnt s.op=0
 ·have bV:(((cnt s.op:Nat):Int)==0)=true:=by grind
  have cj:(s.n !=0)=false:=by
   have:=C.o;rw[decide_eq_true av,Bool.true_and]at this;exact this
  by_cases ak:s.op=0
  ·have bl:=beq_iff_eq.2 ak;have I:V _:=IS.keep aD.o HK.o yaa;by_cases be:0<=s.a/\s.a<n
   ·obtain⟨j,hj⟩:∃j:Nat,s.a=j:=⟨s.a.toNat,by omega⟩
    have aq:j<n:=xaa
    have z:V (fA ins s=(ins.getD j 0==s.len)):=by
     show _=_;rw[al.o,h7 ak,HL.o,show gm _ n=true from decide_eq_true be,hj];rfl
    have aL:V _:=λw=>by
     have:=lA (j:Int) n w
     rw[show gm (j:Int) n=true from decide_eq_true xaa]at this
     exact this
    rcases I.o.at_ with bP|⟨d,bL,bS,aR,bd,bu,bC⟩
    ·omega
    have c0:=bC j aq;subst bS;rw[hj]at r;generalize ins.getD j 0=y at c0 z;have bE:(0:Int)<=j:=xaa;have bm:(j:Int)<n:=xaa;clear aR bd bu bC be hj;exact xft
   have z:V (fA ins s=false):=by
    show _=_;rw[al.o,h7 ak,HL.o,show gm _ n=false from yay be];rfl
   have aL:V _:=λw=>by
    have:=lA s.a n w
    rw[show gm s.a n=false from yay be]at this
    exact this
   clear be;exact xft
  have bl:=yan ak;have z:V _:=al.o;rw[h6 ak]at z;have cq:(0:Int)<=(cnt s.op:Nat):=xaa;have cc:(cnt s.op:Nat)<=(3:Int):=xaa;have bj:=eA 0 0 bD (.cells #[h1 s.n,h1 s.len,h1 s.len] 3);have t:V _:=T.o.keep bj;have x:V _:=Kept.trans HK.o bj;obtain⟨⟨bF,bB,bG,b3,cu,aa,bn,bM⟩,⟨bh,aJ,y2,y3,y4,b5⟩,_,_⟩:=t.o;simp only[Nat.zero_add]at bB bG b3 cu aa bn bM aJ y2 y3 y4 b5;have u:V _:=is3 bD s.n s.len s.len _ cA;clear bj;go_wp2_with fail;clear bR aM bi aI r aC a7 bT aw ba bb bc bo aF;have k:V (∀m,Calls _ _ #[(jU s).agg,.slice _ _ 3] _ λe B=>e=.returned (.bool (eQ _ s.len s.c _))/\Kept 0 0 w _/\Kept 0 0 _ _):=λm=>(pe _ _ _ _ _ _ _ _ _ _ _ _ _ (IS.keep u.o (eH 0 0 _ m) yaa) rfl).mono λe B h=>⟨h.1,Kept.trans x.o (Kept.trans (eH 0 0 _ m) h.2),Kept.trans (eH 0 0 _ m) h.2⟩
  generalize bD.alloc _=cn at t x u k bF bB bG b3 cu aa bn bM bh aJ y2 y3 y4 b5⊢;rw[av]at k z;clear av bV cj bl ak al C cA bF bB bG b3 cu aa bn bM ah ts b8 au bf aD HL u HK T;exact xcf
 have bV:(((cnt s.op:Nat):Int)==0)=false:=by grind
 have ak:s.op≠0:=λe=>av (i4 e);have bl:=yan ak;have z:V _:=al.o;rw[h6 ak]at z;have cq:(0:Int)<=(cnt s.op:Nat):=xaa;have cc:(cnt s.op:Nat)<=(3:Int):=xaa;have bj:=eA 0 0 bD (.cells #[h1 s.n,h1 s.len,h1 s.len] 3);have t:V _:=T.o.keep bj;have x:V _:=Kept.trans HK.o bj;obtain⟨⟨bF,bB,bG,b3,cu,aa,bn,bM⟩,⟨bh,aJ,y2,y3,y4,b5⟩,_,_⟩:=t.o;simp only[Nat.zero_add]at bB bG b3 cu aa bn bM aJ y2 y3 y4 b5;have u:V _:=is3 bD s.n s.len s.len _ cA;clear bj;go_wp2_with fail;clear bR aM bi aI r aC a7 bT aw ba bb bc bo aF;have k:V (∀m,Calls _ _ #[(jU s).agg,.slice _ _ 3] _ λe B=>e=.returned (.bool (eQ _ s.len s.c _))/\Kept 0 0 w _/\Kept 0 0 _ _):=λm=>(pe _ _ _ _ _ _ _ _ _ _ _ _ _ (IS.keep u.o (eH 0 0 _ m) yaa) rfl).mono λe B h=>⟨h.1,Kept.trans x.o (Kept.trans (eH 0 0 _ m) h.2),Kept.trans (eH 0 0 _ m) h.2⟩
 generalize bD.alloc _=cn at t x u k bF bB bG b3 cu aa bn bM bh aJ y2 y3 y4 b5⊢;clear av bV bl ak al C cA bF bB bG b3 cu aa bn bM ah ts b8 au bf aD HL u HK T;exact xcf
structure YK(w:World)(g n:Nat)(xs:List Int):Prop where
 len:xs.length=n
 lt:g<w.heap.size
 at_:∀k,k<n->w.cell? ⟨g,k,none⟩=some (.int .u8 (xs.getD k 0))
 free:∀o,w.frozen? ⟨g,o,none⟩=false
structure YZ(w:World)(g:Nat)(a:Option Addr)(n:Nat)(xs:List Int):Prop where
 len:xs.length=n
 at_:n=0\/(a=some ⟨g,0,none⟩/\YK w g n xs)
theorem YZ.ys{a xs}(f:YZ w g a n xs)(h:∀x∈xs,0<=x/\x<256):YS w a n xs:=⟨f.1,h,f.2.imp id λ⟨e,q⟩=>⟨g,0,e,q.lt,λk O=>by rw[Nat.zero_add];exact q.at_ k O⟩⟩
theorem YB.yz{W I}(f:YB W I v bs):∃g a cap,v=.slice a bs.length cap/\YZ W g a bs.length bs/\(0<bs.length->I<=g):=by
 rcases f.2 with⟨rfl,c⟩|⟨g,cap,ad,rfl,U,aV,aa,_,ct,bX⟩
 ·exact⟨0,none,0,by rw[c],⟨rfl,.inl c⟩,λh=>by omega⟩
 refine⟨g,_,cap,rfl,⟨rfl,.inr ⟨rfl,rfl,?_,λk O=>?_,λo=>?_⟩⟩,λ_=>U⟩
 ·exact xev
 ·rw[cell_of_row W g _ ad _ _ aV,<-Array.getElem?_toList];have:(ad.toList.take (bs.length*1))[k]? =(bs.map (Value.int .u8))[k]?:=by rw[bX]
  rw[List.getElem?_take_of_lt xaa]at this;rw[this,List.getElem?_map,yam O,yai,yam O];rfl
 exact frozen_of_row W g o ad _ aV
end
section
variable{p:Nat->Bool}{vs:List Vl}{outs ps:List Int}{n i j:Nat}
def Hw(v:Vl)(i:Nat):Bool:=(List.range (cnt v.op)).any λk=>fld v k==(i:Int)
def jO(vs:List Vl)(i:Nat):Nat->Int
 |0=>-1
 |m+1=>if Hw (vs.getD (i+1+m) h9) i=true then ((i+1+m:Nat):Int)else jO vs i m
def mU(vs:List Vl)(outs:List Int)(i:Nat):Int:=if isO outs i=true then (vs.length:Int)else jO vs i (vs.length-(i+1))
def qU(vs:List Vl)(outs:List Int)(ps:List Int)(i:Nat)(n a:Int)(j:Nat):Bool:=decide ((i:Int)<=mU vs outs j)&&(decide (ps.getD j 0<a+n)&&decide (a<ps.getD j 0+(vs.getD j h9).len))
def kG(vs:List Vl)(outs:List Int)(ps:List Int)(i:Nat)(n a:Int):Bool:=(List.range i).all λj=>!qU vs outs ps i n a j
def rO(vs:List Vl)(outs:List Int)(ps:List Int)(i:Nat):Int:=(((List.range 60000).find? λ(a:Nat)=>kG vs outs ps i (vs.getD i h9).len (a:Int)).getD 0:Nat)
def fB(vs:List Vl)(outs:List Int):Nat->List Int
 |0=>[]
 |i+1=>fB vs outs i++[rO vs outs (fB vs outs i) i]
theorem qV(vs outs):∀i,(fB vs outs i).length=i
 |0=>rfl
 |i+1=>by rw[fB,yal,qV _ _ i];rfl
theorem Lg(vs outs)(h:j<i):(fB vs outs (i+1)).getD j 0=(fB vs outs i).getD j 0:=by
 grind[fB,qV]
theorem Lh(vs outs i):(fB vs outs (i+1)).getD i 0=rO vs outs (fB vs outs i) i:=by
 simp_all[fB,qV]
theorem BK:∀{I a:Nat},a<I->p a=true->(∀b,b<a->p b=false)->(List.range I).find? p=some a:=λ{I a} F h2 h3=>by
 simp_all
theorem Aq{a:Nat}(h:kG vs outs ps i (vs.getD i h9).len (a:Int)=true)(ao:∀b:Nat,b<a->kG vs outs ps i (vs.getD i h9).len (b:Int)=false)(az:a<60000):rO vs outs ps i=(a:Int):=by
 unfold rO;rw[BK az h ao];rfl
def iU(vs:List Vl):Nat->Int
 |0=>0
 |i+1=>iU vs i+(vs.getD i h9).len
theorem ie(ai:∀k,k<n->1<=(vs.getD k h9).len)(e2:i<=j)(hj:j<=n):iU vs i<=iU vs j:=by
 induction j<;>grind[iU]
theorem kY(vs):∀i,i<=vs.length->iU vs i=eZ (vs.take i)
 |0,_=>by simp[iU,eZ]
 |i+1,h=>by rw[iU,kY _ i xaa,oD xaa]
theorem qW:∀{I:Nat},p I=true->∃a,a<=I/\p a=true/\∀b,b<a->p b=false:=λ{I} h=>by
 induction I using Nat.strongRecOn<;>grind
theorem qX(ai:∀k,k<n->1<=(vs.getD k h9).len)(aw:iU vs n<=50000):∀i,i<=n->∀j,j<i->0<=(fB vs outs i).getD j 0/\(fB vs outs i).getD j 0+(vs.getD j h9).len<=iU vs (j+1):=λi=>by
 induction i with
 |zero=>omega
 |succ i G=>
  intro hi j hj
  by_cases e:j<i
  ·rw[Lg _ _ e];grind
  ·obtain rfl:j=i:=xaa
   have g:=G xaa
   have ep:0<=iU vs j:=by have:=ie ai (i:=0) (j:=j) xaa xaa;simpa[iU] using this
   have bM:=ie ai (i:=j) (j:=n) xaa xaa
   obtain⟨S,a2⟩:=Int.eq_ofNat_of_zero_le ep
   have f:kG vs outs (fB vs outs j) j (vs.getD j h9).len S=true:=by
    unfold kG;rw[List.all_eq_true];intro q aA;have u:=List.mem_range.1 aA;have F:=g q u;have h2:=ie ai (i:=q+1) (j:=j) xaa xaa;unfold qU;rw[yay (show ¬(S<(fB _ _ j).getD q 0+(vs.getD q _).len) by omega)]
    simp
   obtain⟨a,m,cr,d⟩:=qW (p:=λa=>kG _ _ _ j _ a) f
   rw[Lh,Aq cr d xaa,iU]
   omega
theorem Hx(ai:∀k,k<n->1<=(vs.getD k h9).len)(aw:iU vs n<=50000)(hi:i<n):∃a:Nat,rO vs outs (fB vs outs i) i=a/\(a:Int)<=iU vs i/\kG vs outs (fB vs outs i) i (vs.getD i h9).len (a:Int)=true/\∀b:Nat,b<a->kG vs outs (fB vs outs i) i (vs.getD i h9).len (b:Int)=false:=by
 have g:=qX (outs:=outs) ai aw i xaa;have ep:0<=iU vs i:=by have:=ie ai (i:=0) (j:=i) xaa xaa;simpa[iU] using this
 have bM:=ie ai (i:=i) (j:=n) xaa xaa;obtain⟨S,a2⟩:=Int.eq_ofNat_of_zero_le ep
 have f:kG vs outs (fB vs outs i) i (vs.getD i h9).len S=true:=by
  unfold kG;rw[List.all_eq_true];intro q aA;have u:=List.mem_range.1 aA;have F:=g q u;have h2:=ie ai (i:=q+1) (j:=i) xaa xaa;unfold qU;rw[yay (show ¬(S<(fB _ _ i).getD q 0+(vs.getD q _).len) by omega)];simp
 obtain⟨a,m,cr,d⟩:=qW (p:=λa=>kG _ _ _ i _ a) f;exact⟨a,Aq cr d xaa,by omega,cr,d⟩
theorem Hy{n a b}(hj:j<i)(e:qU vs outs ps i n a j=true)(hb:kG vs outs ps i n b=true)(d:a<=b):ps.getD j 0+(vs.getD j h9).len<=b:=by
 unfold kG at hb;have h:=List.all_eq_true.1 hb j (List.mem_range.2 hj);grind[qU]
end
section
attribute[local go_sem] eE eD eC
variable{H:World}{i I k j m g cap:Nat}{u v:Value}{ps af:List Int}
theorem Er(v)(i q:Nat):((List.range (q+1)).any λk=>fld v k==(i:Int))=(((List.range q).any λk=>fld v k==(i:Int))||(fld v q==(i:Int))):=by
 grind
theorem As(vs i m):jO vs i (m+1)=if Hw (vs.getD (i+1+m) h9) i=true then ((i+1+m:Nat):Int)else jO vs i m:=rfl
theorem cL.qct(h:Zp:=by
 have aD:V _:=f.keep ad;have HK:V _:=ad;clear f Q ci cz cD aN ho cr dd ad;go_enter func103,ntmps103;go_wp2_with fail;generalize w.alloc _=aH at T aD HK⊢;go_loopw [5,6] (λx y W=>∃m:Nat,i+1+m<=ae/\x=h1 (jO vs i m)/\y=h1 ((i:Int)+1+m)/\V (Kept 0 0 aH W)) (λ_ y _=>(ae:Int).toNat-(intOf y).toNat)
 case atStart=>exact⟨0,by omega,rfl,by go_num,Kept.refl _ _ _⟩
 case round=>
  obtain⟨m,ao,rfl,rfl,aG⟩:=hrel;obtain⟨_,aP,ay,aB⟩:=T.o.keep aG.o;by_cases hlt:i+1+m<ae
  ·have hops:=nu (bX.o _ hlt);have aQ:V _:=zD _ hops.1 hops.2
   have al:V (∀H,Kept 0 0 _ H->∃g off,aV=some _/\g<H.heap.size/\At _ g _ _):=λH X=>by
    obtain⟨g,off,e,aR,_,_,bC⟩:=(aD.o.keep X).v.at_idx hlt
    exact⟨g,off,e,aR,bC⟩
   have au:V _:=As vs i m;unfold Hw at au;generalize cJ:vs.getD _ _=v at aQ al au hops;have cA:=gK v.op;clear cJ;obtain⟨j,hj⟩:∃j:Nat,j=i+1+m:=⟨_,rfl⟩
   have n:(i:Int)+1+m=j:=xaa;rw[n];rw[<-hj]at al au hlt;generalize bp:jO _ i m=y at au;have C:V (j=i+1+m/\(i:Int)+1+m=j):=⟨hj,n⟩
   clear bp hj n ao hops;go_wp2_with fail;go_loopw [5,7] (λx z W=>∃q:Nat,q<=cnt v.op/\z=h1 q/\x=h1 (if ((List.range q).any λk=>fld v k==(i:Int))=true then (j:Int)else y)/\V (Kept 0 0 aH W)) (λ_ z _=>cnt v.op-(intOf z).toNat)
   case atStart=>exact⟨0,yae,rfl,by simp,aG⟩
   case round=>
    obtain⟨q,aA,rfl,rfl,J⟩:=hrel;clear aG aP ay aB;obtain⟨_,aP,ay,aB⟩:=T.o.keep J.o;obtain⟨g,off,rfl,aK,bh,aJ,y2,y3,y4,b5⟩:=al.o _ J.o;by_cases F:q<cnt v.op
    ·have cP:V _:=λW=>nz W v q xaa;have ag:V _:=Er v i q;generalize bU:((List.range q).any _)=E at ag⊢;obtain⟨bF,ap⟩:∃bF,bF=(if E=true then (j:Int)else y):=⟨_,rfl⟩
     rw[<-ap];have HX:V _:=ap;clear bU ap;go_wp2_with (first|(go_at_call 19;refine yaj (aQ.o _) ?_;rintro e bn ⟨rfl,rfl⟩)|fail);refine yaj (cP.o _) ?_;rintro e bn ⟨rfl,r⟩;have R2:V _:=J.o.trans r;cases t:(fld v q==(i:Int))
     ·have S:¬fld v q=i:=by simpa using t
      rw[t,Bool.or_false]at ag;generalize fld v q=z at S;clear t r;go_wp2_with fail;go_roundw;exact⟨q+1,by omega,by go_num,by rw[ag.o,HX.o],R2⟩;simp[intOf];omega
     have S:fld v q=i:=by simpa using t
     rw[t,Bool.or_true]at ag;rw[S];clear t r S;go_wp2_with fail;go_roundw;exact⟨q+1,by omega,by go_num,i4 ag.o,R2⟩;simp[intOf];omega
    obtain rfl:q=cnt v.op:=xaa;have R:V _:=au.o;generalize (if ((List.range _).any _)=true then (j:Int)else y)=z at R⊢;go_wp2_with (first|(go_at_call 19;refine yaj (aQ.o _) ?_;rintro e bn ⟨rfl,rfl⟩)|fail);go_roundw
    case rel=>exact⟨m+1,ix C.o,by rw[R.o],by have:=C.o;congr 1;omega,J⟩
    case measure=>have:=C.o;simp[intOf];omega
  have Y:i+1+m=ae:=xaa
  have R:V (mU vs outs i=if isO outs i=true then (ae:Int)else jO vs i m):=by
   show _=_;unfold mU;rw[HL.o,show ae-(i+1)=m by omega]
  generalize jO _ i m=z at R;have HN:V _:=F5 _ U aV _ Z c1 ae c2 _ c3 i _ _ _ (aD.o.keep aG.o).o xaa;go_wp2_with fail;refine yaj HN.o ?_;rintro e bn ⟨rfl,r⟩;obtain⟨_,bq,aq,aT⟩:=(T.o.keep aG.o).keep r;have R2:V _:=(HK.o.trans aG.o).trans r;clear HN r aP ay aB;cases t:isO outs i
  ·rw[t,h6 xac]at R;go_wp2_with fail;go_ret;exact⟨i4 R.o,R2.o⟩
  rw[t,h7 rfl]at R;go_wp2_with fail;go_ret;exact⟨i4 R.o,R2.o⟩):Zp:=h
open cL in
theorem Es(w U aV aa Z c1 ae c2 ab c3 i ins vs outs)(f:GS w U Z aV ae aa ab ins vs outs)(Q:okG ins vs outs=true)(hi:i<ae):
  Calls prog 103 #[eX U Z c1 aV ae c2 aa ab c3,h1 (i:Nat)] w λe B=>e=.returned (h1 (mU vs outs i))/\Kept 0 0 w B:=by
 obtain⟨⟨ci,cz,cD⟩,_,aN,ho,_⟩:=jZ Q;have cr:=f.v.len;have dd:=f.o.len;have bv:ae<=2000:=xaa;have cp:ab<=50:=xaa;have bX:V (∀j,j<ae->_):=λj hj=>aN j xaa;have HL:V _:=cr;exact qcs
structure P2(W:World)(B:Nat)(u v:Value)(k m:Nat)(ps ls:List Int):Prop where
 pu:W.ownsRow B 3 1 u k (ps.map (Value.int .i64))
 pv:W.ownsRow B 3 1 v m (ls.map (Value.int .i64))
 ne:∀g,u.ownBlock=some g->v.ownBlock≠some g
theorem P2.keep{W}(f:P2 W I u v k m ps af)(q:Kept 0 0 W H):P2 H I u v k m ps af:=
 ⟨eN f.pu q,eN f.pv q,f.ne⟩
theorem P2.start(W I):P2 W I (.slice none 0 0) (.slice none 0 0) 0 0 [] []:=
 ⟨yaw _ _ _ _,yaw _ _ _ _,λg h=>by simp[Value.ownBlock]at h⟩
theorem CP{W:World}(f:W.ownsRow I 3 1 u k (ps.map (Value.int .i64)))(hj:j<k):∃g cap,u=h0 g k cap/\I<=g/\g<W.heap.size/\W.cell? ⟨g,j,none⟩=some (h1 (ps.getD j 0)):=by
 obtain⟨g,cap,rfl,F,h2⟩:=f.form xaa;have ai:ps.length=k:=by have:=f.1;rw[List.length_map]at this;omega
 rcases (oF f ai).at_ with z|⟨aC,off,e,aR,bd,bu,bC⟩<;>grind
theorem P2.putU{W x o}(f:P2 W I u v k m ps af)(ho:H.ownsRow I 3 1 (h0 g (k+1) cap) (k+1) (ps.map (Value.int .i64)++[h1 x]))(aK:(W.alloc o).grownBy H u.ownBlock)(az:u.ownBlock=some g\/g=W.heap.size+1):P2 H I (h0 g (k+1) cap) v (k+1) m (ps++[x]) af:=by
 refine⟨by grind,?_,?_⟩
 ·refine(f.pv.alloc o).kept aK ?_;cases aN:v.ownBlock with
  |none=>grind
  |some b=>exact .inr (λc=>f.ne b c.symm aN)
 exact xgu
theorem P2.putV{W x o}(f:P2 W I u v k m ps af)(ho:H.ownsRow I 3 1 (h0 g (m+1) cap) (m+1) (af.map (Value.int .i64)++[h1 x]))(aK:(W.alloc o).grownBy H v.ownBlock)(az:v.ownBlock=some g\/g=W.heap.size+1):P2 H I u (h0 g (m+1) cap) k (m+1) ps (af++[x]):=by
 refine⟨?_,by grind,?_⟩
 ·refine(f.pu.alloc o).kept aK ?_;cases aN:u.ownBlock with
  |none=>grind
  |some b=>exact .inr (λc=>f.ne b aN c.symm)
 exact xgv
def Au(vs:List Vl)(outs:List Int)(k:Nat):List Int:=(List.range k).map (mU vs outs)
theorem Li(vs outs)(h:j<k):(Au vs outs k).getD j 0=mU vs outs j:=by
 simp_all[Au]
theorem Et(vs outs k):Au vs outs (k+1)=Au vs outs k++[mU vs outs k]:=by
 simp_all[Au,List.range_succ]
theorem uM(vs i):∀m,-1<=jO vs i m/\jO vs i m<=(i:Int)+m
 |0=>by rw[jO];omega
 |m+1=>by
  have:=uM vs i m
  rw[jO]
  omega
theorem Eu(vs outs)(h:i<vs.length):-1<=mU vs outs i/\mU vs outs i<=vs.length:=by
 have:=uM vs i (vs.length-(i+1));unfold mU;omega
def Av:Value->Nat
 |.bool true=>1
 |_=>0
theorem Ev{vs outs n a}(h:∀q,q<i->qU vs outs ps i n a q=false):kG vs outs ps i n a=true:=by
 simp_all[kG]
theorem cM.qct(h:Zp:=by
 have aD:V _:=f.keep ad;have HK:V _:=ad;clear f Q ci cz cD aN cr cR ad;go_enter func88,ntmps88;go_wp2_with fail;generalize w.alloc _=aH at T aD HK⊢;go_loopw [3,4,5] (λah v' x W=>∃(k:Nat) (u v:Value),u=ah/\v=v'/\k<=ae/\x=h1 k/\V (P2 W aH.heap.size u v k k (fB vs outs k) (Au vs outs k))/\V (Kept 0 0 aH W)) (λ_ _ x _=>ae-(intOf x).toNat)
 case atStart=>exact⟨0,_,_,rfl,rfl,yae,rfl,P2.start _ _,Kept.refl _ _ _⟩
 case round=>
  obtain⟨i,u,v,rfl,rfl,hi,rfl,hP,aG⟩:=hrel;obtain⟨_,aP,ay,aB⟩:=T.o.keep aG.o;by_cases hlt:i<ae
  ·obtain⟨p,aQ,ec,ai,bQ⟩:=Hx (outs:=outs) (λk O=>(bX.o k O).1) au.o hlt;have cS:V _:=qX (outs:=outs) (λk O=>(bX.o k O).1) au.o i xaa;have cN:V (∀j,j<=ae->_):=λj hj=>Int.le_trans (ie (λk O=>(bX.o k O).1) hj yad) au.o;have aI:p<=50000:=by have:=cN.o i xaa;omega
   have aj:V (fB vs outs (i+1)=fB vs outs i++[(p:Int)]):=by show _=_;rw[fB,aQ]
   obtain⟨N,bI⟩:∃N,N=(vs.getD i h9).len:=⟨_,rfl⟩
   have av:=bX.o i hlt;rw[<-bI]at ai bQ av;have ao:V _:=ai;have cX:V _:=bQ;obtain⟨g,off,rfl,aK,_,_,bh,aJ,y2,y3,y4,b5⟩:=(aD.o.keep aG.o).v.at_idx hlt;rw[<-bI]at aJ;clear aQ ec ai bQ bI;go_wp2_with fail;clear bh aJ y2 y3 y4 b5 aK aP ay aB;go_loopw [7,8] (λx y W=>∃(a:Nat) (b:Bool),x=h1 a/\y=.bool b/\a<=p/\V (b=false->kG vs outs (fB vs outs i) i N (a:Int)=true)/\V (P2 W aH.heap.size u v i i (fB vs outs i) (Au vs outs i))/\V (Kept 0 0 aH W)) (λx y _=>2*(60000-(intOf x).toNat)+Av y)
   case atStart=>exact⟨0,_,rfl,rfl,yae,(λh=>by cases h),hP,aG⟩
   case round=>
    obtain⟨a,b,rfl,rfl,az,F,Y,J⟩:=hrel;clear hP aG;cases b
    ·obtain rfl:a=p:=by
      rcases Nat.lt_or_ge a p with c|c
      ·have:=cX.o a c;rw[F.o rfl]at this;cases this
      omega
     clear F cX;have b2:=J.o.size;go_wp2_with (first|(at_builtin;refine wpList_append_lies _ rfl _ _ _ rfl _ 3 _ _ 1 8 underlying23 al cA ct bo rfl xab _ _ _ rfl (Y.o.pu.alloc _) _ 1 1 [h1 a] rfl rfl ?c1 ?c2 xab ?c3 ?c4 ?c5 _ rfl ?_)|fail)
     case c1=>exact cell_one_new _ _ _
     case c2=>intro u a6;simp at a6;subst a6;rfl
     case c3=>unfold maxLen;omega
     case c4=>omega
     case c5=>simp;omega
     intro g9 cap9 bn bU bK bO _;have R1:V _:=P2.putU Y.o bU bK bO;have R2:V _:=iK bK (λi hi=>(eG Y.o.pu hi).1) (J.o.trans (eA 0 0 _ _)) yad;rw[<-aj.o]at R1;clear bU bK bO Y J b2 aj;obtain⟨_,aP,ay,aB⟩:=T.o.keep R2.o;have bA:V _:=Es _ _ _ _ _ c1 _ c2 _ c3 i _ _ _ (aD.o.keep R2.o) cB.o hlt;go_wp2_with fail;refine yaj bA.o ?_;rintro e a5 ⟨rfl,G⟩;have d:V _:=R1.o.keep G;have aO:V _:=R2.o.trans G;have b2:=aO.o.size;have bu:V _:=Et vs outs i;clear R1 R2 G bA aP ay aB;generalize mU _ _ i=aq at bu;go_wp2_with (first|(at_builtin;refine wpList_append_lies _ rfl _ _ _ rfl _ 3 _ _ 1 8 underlying23 al cA ct bo rfl xab _ _ _ rfl (d.o.pv.alloc _) _ 1 1 [h1 aq] rfl rfl ?c1 ?c2 xab ?c3 ?c4 ?c5 _ rfl ?_)|fail)
     case c1=>exact cell_one_new _ _ _
     case c2=>intro u a6;simp at a6;subst a6;rfl
     case c3=>unfold maxLen;omega
     case c4=>omega
     case c5=>simp;omega
     intro ax aw bf an K ak _;have R1:V _:=P2.putV d.o an K ak;have R2:V _:=iK K (λi hi=>(eG d.o.pv hi).1) (aO.o.trans (eA 0 0 _ _)) yad;rw[<-bu.o]at R1;clear an K ak d aO b2 bu;go_wp2_with fail;go_roundw;exact⟨i+1,_,_,rfl,rfl,by omega,by go_num,R1,R2⟩;simp[intOf];omega
    go_wp2_with fail;go_loopw [7,8,9] (λx y z W=>∃(am:Nat) (S:Bool) (j:Nat),x=h1 am/\y=.bool S/\z=h1 j/\j<=i/\am<=p/\V (S=false->am=a/\∀q,q<j->qU vs outs (fB vs outs i) i N (a:Int) q=false)/\V (S=true->a<am)/\V (P2 W aH.heap.size u v i i (fB vs outs i) (Au vs outs i))/\V (Kept 0 0 aH W)) (λ_ _ z _=>i-(intOf z).toNat)
    case atStart=>exact⟨a,_,0,rfl,rfl,rfl,yae,az,λ_=>⟨rfl,λq aA=>by omega⟩,(λh=>by cases h),Y,J⟩
    case round=>
     obtain⟨am,S,j,rfl,rfl,rfl,hj,C,be,bm,ag,t⟩:=hrel;clear Y J F;by_cases n:j<i
     ·obtain⟨_,aP,ay,aB⟩:=T.o.keep t.o;obtain⟨aC,cx,a2,aK,_,_,bh,aJ,y2,y3,y4,b5⟩:=(aD.o.keep t.o).v.at_idx (i:=j) xaa;cases a2;obtain⟨ar,fM,rfl,_,aF,ch⟩:=CP ag.o.pu n;obtain⟨b0,cv,rfl,_,ck,b9⟩:=CP ag.o.pv n;rw[Li _ _ n]at b9;have bM:=cS.o j n;have b6:=cN.o (j+1) xaa;have P:=bX.o j xaa;have aZ:=Eu _ outs (i:=j) (i3 l.o);rw[l.o]at aZ;have r:V (qU _ _ _ i N am j=true->_):=λh=>Hy n h ao.o xaa;have aW:V (qU vs outs (fB vs outs i) i N am j=(decide _&&(decide _&&decide _))):=rfl
      have cM:V (qU _ _ _ i N am j=false->S=false->am=a/\∀q,q<j+1->qU _ _ _ i N a q=false):=λh hb=>by
       obtain⟨e,aA⟩:=be.o hb
       subst e
       refine⟨rfl,λq bp=>?_⟩
       by_cases c:q<j
       ·exact aA q c
       ·obtain rfl:q=j:=xaa
        exact h
      generalize mU _ _ j=L at b9 aZ aW;generalize (fB _ _ i).getD j 0=X at ch bM aW r;generalize (vs.getD j _).len=M at aJ bM P aW r;by_cases aS:i<=L
      ·by_cases a9:X<am+N
       ·by_cases bV:am<X+M
        ·have ap:=r.o (by rw[aW.o,decide_eq_true aS,decide_eq_true a9,decide_eq_true bV];rfl)
         have R:V (a<(X+M).toNat):=by
          show _<_;cases S
          ·have:=(be.o rfl).1;omega
          have:=bm.o rfl;omega
         clear aW r cM be bm;go_wp2_with fail;go_region
         all_goals
          go_wp2
          go_roundw;exact⟨(X+M).toNat,true,j+1,by congr 1;omega,rfl,by go_num,by omega,by omega,(λh=>by cases h),(λ_=>R.o),ag.o.keep (eF _),Kept.drew t.o⟩;simp[intOf];omega
        have R:V _:=cM.o (by rw[aW.o,yay bV];simp);exact xcp
       have R:V _:=cM.o (by rw[aW.o,yay a9];simp);exact xcp
      have R:V _:=cM.o (by rw[aW.o,yay aS];rfl);exact xcp
     obtain rfl:j=i:=xaa
     have R:V _:=λh=>by
      obtain⟨e,aA⟩:=be.o h
      subst e
      exact Ev aA
     have R2:V (2*(60000-am)+Av (.bool S)<2*(60000-a)+1):=by
      show _<_;cases S
      ·have:=(be.o rfl).1;simp[Av];omega
      have:=bm.o rfl;simp[Av];omega
     clear be bm;go_wp2;go_roundw
     case rel=>exact⟨_,_,rfl,rfl,C,R,ag,t⟩
     case measure=>simpa[intOf,Av] using R2.o
  obtain rfl:i=ae:=xaa;obtain⟨a,cap,rfl⟩:=iL hP.o.pu;have R:V _:=oF hP.o.pu (qV _ _ _);have R2:V _:=HK.o.trans aG.o;clear hP aG;go_wp2;go_ret;exact⟨a,_,rfl,R.o,R2.o⟩):Zp:=h
open cM in
theorem Hz(w U aV aa Z c1 ae c2 ab c3 ins vs outs)(f:GS w U Z aV ae aa ab ins vs outs)(Q:okG ins vs outs=true):
  Calls prog 88 #[eX U Z c1 aV ae c2 aa ab c3] w λe B=>∃a cap,e=.returned (.slice a ae cap)/\IS B 0 B.heap.size a ae (fB vs outs ae)/\Kept 0 0 w B:=by
 obtain⟨bE,al,cA,ct,bo⟩:=info_parts rZ;obtain⟨⟨ci,cz,cD⟩,_,aN,_,cR⟩:=jZ Q;have cr:=f.v.len;have bv:ae<=2000:=xaa;have cB:V _:=Q;have bX:V (∀j,j<ae->_):=λj hj=>gi (aN j xaa);have au:V (iU vs ae<=50000):=by grind[kY]
 have l:V _:=cr;exact qcs
end
section
variable{ins outs:List Int}{vs:List Vl}
def oh(vs:List Vl)(ps:List Int)(i:Nat):Ste:=
 ⟨(vs.getD i h9).op,(vs.getD i h9).len,
  if 0<cnt (vs.getD i h9).op then (vs.getD (vs.getD i h9).a.toNat h9).len else 0,
  ps.getD i 0,
  if 0<cnt (vs.getD i h9).op then ps.getD (vs.getD i h9).a.toNat 0 else (vs.getD i h9).a,
  if 1<cnt (vs.getD i h9).op then ps.getD (vs.getD i h9).b.toNat 0 else (vs.getD i h9).b,
  if 2<cnt (vs.getD i h9).op then ps.getD (vs.getD i h9).c.toNat 0 else (vs.getD i h9).c,
  if (vs.getD i h9).op=1 then (vs.getD i h9).k else 0⟩
def f9(vs:List Vl)(ps:List Int)(k:Nat):List Ste:=(List.range k).map (oh vs ps)
theorem Aw(vs ps k):f9 vs ps (k+1)=f9 vs ps k++[oh vs ps k]:=by
 unfold f9;rw[List.range_succ,List.map_append];rfl
theorem kZ(vs ps k):(f9 vs ps k).length=k:=by simp[f9]
def gW(vs:List Vl)(ps:List Int):Nat->Int
 |0=>0
 |k+1=>if gW vs ps k<ps.getD k 0+(vs.getD k h9).len then ps.getD k 0+(vs.getD k h9).len else gW vs ps k
def kK(vs:List Vl)(ps:List Int)(o:Int):Spn:=⟨ps.getD o.toNat 0,(vs.getD o.toNat h9).len⟩
theorem wv(vs i):∀m,jO (vs.map cv) i m=jO vs i m
 |0=>rfl
 |m+1=>by rw[jO,jO,wv _ i m,lN];rfl
theorem Lj(vs outs ps i n a j):qU (vs.map cv) outs ps i n a j=qU vs outs ps i n a j:=by
 unfold qU mU;rw[wv,List.length_map,lN];rfl
theorem CQ(vs outs):∀i,fB (vs.map cv) outs i=fB vs outs i
 |0=>rfl
 |i+1=>by
  have e:∀ps,kG (vs.map cv) outs ps=kG vs outs ps:=λps=>by
   grind[kG,Lj]
  rw[fB,fB,CQ _ _ i]
  unfold rO
  rw[lN,e];rfl
theorem yx(vs):∀i,iU (vs.map cv) i=iU vs i
 |0=>rfl
 |i+1=>by rw[iU,iU,yx _ i,lN];rfl
theorem ww(vs ps):∀i,gW (vs.map cv) ps i=gW vs ps i
 |0=>rfl
 |i+1=>by rw[gW,gW,ww _ _ i,lN];rfl
theorem Ll(vs ps i):nk (oh (vs.map cv) ps i)=nk (oh vs ps i):=by
 grind[cv,lN,oh,nk,rE]
theorem wz(vs ps n):(f9 (vs.map cv) ps n).map nk=(f9 vs ps n).map nk:=by
 simp_all[f9,Ll]
theorem CR(vs ps):kK (vs.map cv) ps=kK vs ps:=by
 funext o;unfold kK;rw[lN];rfl
def plD(own:Bool)(vs:List Vl)(outs:List Int):List Int:=if own=true then (List.range vs.length).map (iU vs)else fB vs outs vs.length
def pkD(own:Bool)(vs:List Vl)(outs:List Int):Int:=if own=true then iU vs vs.length else gW vs (plD own vs outs) vs.length
theorem BM(own vs outs):plD own (vs.map cv) outs=plD own vs outs:=by
 have e:=funext (yx vs);grind[plD,CQ]
theorem H7(own vs outs):pkD own (vs.map cv) outs=pkD own vs outs:=by
 grind[pkD,yx,ww,BM]
theorem Lk.code{us}(h:Lk us vs)(own outs):(f9 us (plD own us outs) us.length).map nk=(f9 vs (plD own vs outs) vs.length).map nk/\outs.map (kK us (plD own us outs))=outs.map (kK vs (plD own vs outs))/\pkD own us outs=pkD own vs outs:=by
 have e:=h.len;unfold Lk at h;rw[<-wz _,<-BM _ _,<-CR _,<-H7 _ _,h,e,wz,BM,CR,H7];grind
theorem H8(h:okG ins vs outs=true)(own):∀j,j<vs.length->0<=(plD own vs outs).getD j 0/\(plD own vs outs).getD j 0+(vs.getD j h9).len<=50000:=λj hj=>by
 obtain⟨_,_,aN,_,al⟩:=jZ h
 have ai:∀k,k<vs.length->_:=λk O=>(gi (aN k O)).1
 have aw:iU vs vs.length<=50000:=by grind[kY]
 have F:=ie ai (show j+1<=vs.length from hj) yad
 have ak:=ie ai (Nat.zero_le j) xaa
 have cj:iU vs 0=0:=rfl
 unfold plD
 cases own
 ·rw[h6 xac]
  have:=qX (outs:=outs) ai aw _ yad j hj
  omega
 ·rw[h7 rfl,yai,List.getElem?_map,List.getElem?_range hj]
  grind[iU]
theorem Ax{vs ps n}(h:∀j,j<n->0<=ps.getD j 0/\ps.getD j 0+(vs.getD j h9).len<=50000):∀k,k<=n->0<=gW vs ps k/\gW vs ps k<=50000
 |0,_=>by simp[gW]
 |k+1,O=>by
  have:=Ax h k xaa
  grind[gW]
theorem M9{ps k}(O:k<vs.length):(f9 vs ps vs.length).getD k Ste.zero=oh vs ps k:=by
 simp_all[f9]
theorem Ia(h:okG ins vs outs=true)(own):(∀k,k<vs.length->(0<=(oh vs (plD own vs outs) k).op/\(oh vs (plD own vs outs) k).op<=14)/\∀y∈fw (oh vs (plD own vs outs) k),0<=y/\y<=60000)/\(0<=pkD own vs outs/\pkD own vs outs<=60000)/\(0<vs.length->1<=pkD own vs outs):=by
 have aF:=H8 h own;obtain⟨⟨b6,cf,b7⟩,hi,aN,ho,al⟩:=jZ h;have bV:∀j,j<vs.length->_:=λj hj=>gi (aN j hj);refine⟨λk O=>?_,?_⟩
 ·generalize plD _ _ _=ps at aF⊢;have aV:=bV k O;have a:=sV (aN k O);obtain⟨b4,_,f1,f2,f3⟩:=DW (aN k O) xaa b6 (λj hj=>uf (aN j xaa));have bE:=aF k O;refine⟨⟨b4.1,Int.le_trans b4.2 xab⟩,λy bp=>?_⟩;unfold oh fw at bp;generalize X:vs.getD k _=v at bp aV b4 a f1 f2 f3 bE
  have aA:∀o∈fo v,(0<=ps.getD o.toNat 0/\ps.getD o.toNat 0<=60000)/\0<=(vs.getD o.toNat h9).len/\(vs.getD o.toNat h9).len<=60000:=λo r=>by
   grind
  simp only[List.mem_cons,List.not_mem_nil,or_false]at bp;rcases bp with rfl|rfl|rfl|rfl|rfl|rfl
  ·omega
  ·split<;>grind[qF]
  ·omega
  ·split<;>grind[qF]
  ·split<;>grind[sW]
  split<;>grind[sX]
 unfold pkD;cases own
 ·rw[h6 xac];have:=Ax aF _ yad;refine⟨by omega,λak=>?_⟩;obtain⟨m,ao⟩:∃m,vs.length=m+1:=⟨vs.length-1,by omega⟩
  grind[gW]
 rw[h7 rfl];have e:=kY vs _ yad;rw[List.take_length]at e;have ak:=ie (λk O=>(bV k O).1) yae yad;have cj:iU vs 0=0:=rfl;refine⟨by omega,λag=>?_⟩;have F:=ie (λk O=>(bV k O).1) (show 1<=vs.length from ag) yad;have h2:=(bV 0 ag).1;have af:iU _ 1=iU _ 0+(vs.getD 0 _).len:=rfl;omega
theorem Lm(h:okG ins vs outs=true)(own):SvOK ins (f9 vs (plD own vs outs) vs.length) (outs.map (kK vs (plD own vs outs))) (pkD own vs outs):=by
 obtain⟨c1,c2,_⟩:=Ia h own;have aF:=H8 h own;obtain⟨⟨b6,cf,b7⟩,hi,aN,ho,al⟩:=jZ h;generalize plD _ _ _=ps at aF c1⊢;refine⟨b6,by rw[kZ];exact cf,by grind,λy bp=>?_,λk O=>?_,λk O=>?_,by omega⟩
 ·have:=of_decide_eq_true (List.all_eq_true.1 hi y bp);omega
 ·grind[kZ,M9]
 rw[List.length_map]at O;have e:(outs.map (kK vs ps)).getD k Spn.zero=kK vs ps (outs[k]):=by simp_all
 rw[e];have:=ho _ (List.getElem_mem O);have F:=aF (outs[k]).toNat xaa;have h2:=gi (aN (outs[k]).toNat xaa);unfold kK;grind
def spS(k v:Nat)(s:Ste):Ste:=
 if k=0 then⟨s.op,s.len,s.n,s.dst+1,s.a,s.b,s.c,s.k⟩
 else if k=1 then⟨s.op,s.len,s.n,s.dst,s.a+((v%3:Nat):Int)-1,s.b,s.c,s.k⟩
 else if k=2 then⟨s.op,s.len,s.n,s.dst,s.a,s.b+((v%3:Nat):Int)-1,s.c,s.k⟩
 else if k=3 then⟨s.op,s.len,s.n,s.dst,s.a,s.b,s.c+((v%3:Nat):Int)-1,s.k⟩
 else if k=4 then⟨s.op,s.len,s.n+1,s.dst,s.a,s.b,s.c,s.k⟩
 else if k=5 then⟨s.op,s.len+((v%3:Nat):Int)-1,s.n,s.dst,s.a,s.b,s.c,s.k⟩
 else if k=6 then⟨((v%15:Nat):Int),s.len,s.n,s.dst,s.a,s.b,s.c,s.k⟩
 else if k=9 then⟨s.op,s.len,s.n,s.dst,s.a,s.b,s.c,4613937818241073152⟩
 else if k=11 then⟨s.op,s.len,s.n,s.a,s.a,s.b,s.c,s.k⟩
 else s
def spL(k v:Nat)(ss:List Ste):List Ste:=ss.set (v%ss.length) (spS k v (ss.getD (v%ss.length) Ste.zero))
def spO(k v:Nat)(os:List Spn):List Spn:=if k=8 then os++[⟨((v%9:Nat):Int),((v%4:Nat):Int)⟩]else os
def spP(k v:Nat)(pk:Int):Int:=if k=7 then pk-((v%2:Nat):Int)else if k=10 then pk+(v:Int)else pk
theorem OI(k v s):nk (spS k v s)=spS k v (nk s)\/(k=9/\nk (spS k v s)=nk (spS k v (nk s))):=by
 unfold spS;by_cases h:k=9
 ·exact .inr ⟨h,by subst h;rfl⟩
 refine .inl ?_;(repeat' split)<;>first|rfl|contradiction
theorem Lo(k v s):nk (spS k v s)=nk (spS k v (nk s)):=by
 grind[OI,nk,rE]
theorem OJ{us ss}(k v)(h:us.map nk=ss.map nk):(spL k v us).map nk=(spL k v ss).map nk:=by
 have ai:us.length=ss.length:=by have:=congrArg List.length h;simpa using this
 have e:nk (us.getD (v%us.length) Ste.zero)=nk (ss.getD (v%us.length) Ste.zero):=by
  have:=congrArg (λl=>l.getD (v%us.length) (nk Ste.zero)) h;simp only[yai,List.getElem?_map]at this⊢;simp_all
 unfold spL;grind[List.map_set,Lo]
end
section
attribute[local go_sem] eE eD eC
def DbO(w:World)(ys:List Int)(e:Ending)(w':World):Prop:=
 ∃a cap,e=.returned (.slice a ys.length cap)/\YS w' a ys.length ys/\ys.length<=cap/\cap<=9223372036854775807/\Kept 0 0 w w'
theorem YB.dbo{w W I v ys}(f:YB W I v ys)(ai:∀x∈ys,0<=x/\x<256)(k:Kept 0 0 w W):DbO w ys (.returned v) W:=by
 obtain⟨g,a,cap,rfl,h,_⟩:=f.yz;refine⟨a,cap,rfl,h.ys ai,?_⟩;rcases f.2 with⟨e,cj⟩|⟨aC,cap',ad,e,_,_,af,bg,_⟩<;>grind[maxLen]
