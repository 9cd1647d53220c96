import Derived.Test.YtiacbhjphaldlaaGreatDoorP29
import Derived.Test.YtiacbhjphaldlaaGreatDoorP14
namespace Go.Proofs.Z
variable{am v a b c n p ts}
variable{Zp:Prop}
open Tryz
set_option maxRecDepth 1000000
set_option maxHeartbeats 0
section
open Go.RowKit Flt
inductive Bdg where
 |val (nm:List UInt8) (v:Nat)
 |fn (nm:List UInt8) (ps:List Tok) (e:Ex)
def Bdg.nm:Bdg->List UInt8
 |.val n _=>n
 |.fn n _ _=>n
structure LSt where
 ins:List Int
 vs:List Vl
 outs:List Int
 names:List Bdg
 calls:Nat
abbrev xK:=Int×Nat
abbrev Rs(α:Type):=Except xK α
def eg(st:LSt)(v:Vl)(p:Nat):Rs (LSt×Nat):=if jf (st.vs++[v])=true then .error (5,p)else .ok ({st with vs:=st.vs++[v]},st.vs.length)
def dS(st:LSt)(i:Nat):Int:=(st.vs.getD i h7).len
def d8(ns:List Bdg)(s:List UInt8):Option Bdg:=ns.find? λb=>b.nm==s
def kj(loc:List (List UInt8×Nat))(s:List UInt8):Option Nat:=(loc.find? λb=>b.1==s).map (·.2)
def dX(st:LSt)(loc:List (List UInt8×Nat))(t:Tok):Rs Nat:=
 match kj loc t.text with
 |some v=>.ok v
 |none=>match d8 st.names t.text with
  |some (.val _ v)=>.ok v
  |_=>.error (3,t.pos)
def mM(st:LSt)(xs:List Nat):Int:=xs.foldl (λn i=>if n<dS st i then dS st i else n) 1
def gE(n:Int)(p:Nat):LSt->List Nat->Rs (LSt×List Nat)
 |st,[]=>.ok (st,[])
 |st,i::r=>if dS st i<n then
   match eg st (dL 10 n (i:Int) 0 0) p with
   |.error f=>.error f
   |.ok (st1,j)=>match gE n p st1 r with
    |.error f=>.error f
    |.ok (st2,js)=>.ok (st2,j::js)
  else match gE n p st r with
   |.error f=>.error f
   |.ok (st2,js)=>.ok (st2,i::js)
def im(st:LSt)(xs:List Nat)(p:Nat):Rs (LSt×List Nat):=if xs.all (λi=>dS st i==mM st xs||dS st i==1)=true then gE (mM st xs) p st xs else .error (4,p)
def ek(t:List UInt8):Int:=t.foldl (λv b=>v*10+((b.toNat:Int)-48)) 0
def me(t:List UInt8):Nat:=cop .quo (floatOfInt .f64 (nds (fh t)).1) (floatOfInt .f64 (nds (fh t)).2.1)
def lw(s:List UInt8):Int:=if s=[43]then 2 else if s=[45]then 3 else if s=[42]then 4 else 5
def ft(st:LSt)(m:List Vl×Int)(p:Nat):Rs (LSt×Nat):=if jf m.1=true then .error (5,p)else .ok ({st with vs:=m.1},m.2.toNat)
def ju(st:LSt)(k:Tok)(a:Nat)(n:Tok):Rs (LSt×Nat):=
 if k.sym=lO then
  if dS st a<=ek n.text then .error (4,n.pos)else eg st (dL 11 1 (a:Int) 0 (ek n.text)) k.pos
 else if dS st a≠1 then .error (4,k.pos)
 else if ek n.text<1\/1000<ek n.text then .error (4,n.pos)else eg st (dL 10 (ek n.text) (a:Int) 0 0) k.pos
def jK(st:LSt)(k:Tok)(a:Nat)(i n:Tok):Rs (LSt×Nat):=
 if dS st a≠1 then .error (4,k.pos)
 else if ek n.text<1\/1000<ek n.text then .error (4,n.pos)
 else if ek n.text<=ek i.text then .error (4,i.pos)else eg st (dL 12 (ek n.text) (a:Int) 0 (ek i.text)) k.pos
def lz(st:LSt)(o:Tok)(a b:Nat):Rs (LSt×Nat):=
 match im st [a,b] o.pos with
 |.error f=>.error f
 |.ok (s2,f)=>eg s2 (dL (lw o.sym) (dS s2 (f.getD 0 0)) (f.getD 0 0:Nat) (f.getD 1 0:Nat) 0) o.pos
def kS(st:LSt)(k:Tok)(a b:Nat):Rs (LSt×Nat):=
 match im st [a,b] k.pos with
 |.error f=>.error f
 |.ok (s2,f)=>
  if k.sym=l8 then eg s2 (dL 7 (dS s2 (f.getD 0 0)) (f.getD 0 0:Nat) (f.getD 1 0:Nat) 0) k.pos
  else match eg s2 (dL 4 (dS s2 (f.getD 0 0)) (f.getD 0 0:Nat) (f.getD 1 0:Nat) 0) k.pos with
   |.error f=>.error f
   |.ok (s3,p)=>eg s3 (dL 9 1 (p:Int) 0 0) k.pos
def po(st:LSt)(k:Tok)(a b c:Nat):Rs (LSt×Nat):=
 match im st [a,b,c] k.pos with
 |.error f=>.error f
 |.ok (s2,f)=>eg s2 (dL 8 (dS s2 (f.getD 0 0)) (f.getD 0 0:Nat) (f.getD 1 0:Nat) (f.getD 2 0:Nat)) k.pos
def mg(st:LSt)(k:Tok)(a x:Nat):Rs (LSt×Nat):=if dS st a≠1 then .error (4,k.pos)else ft st (grM st.vs a x) k.pos
def lX(st:LSt)(k:Tok)(a x d:Nat):Rs (LSt×Nat):=
 if dS st d=1/\1<dS st x then
  match eg st (dL 10 (dS st x) (d:Int) 0 0) k.pos with
  |.error f=>.error f
  |.ok (s2,d2)=>ft s2 (i9 s2.vs a x d2) k.pos
 else if dS st d≠dS st x then .error (4,k.pos)else ft st (i9 st.vs a x d) k.pos
abbrev Loc:=List (List UInt8×Nat)
def iE(r:Option (Rs (LSt×Nat)))(f:LSt->Nat->Option (Rs (LSt×Nat))):Option (Rs (LSt×Nat)):=
 match r with
 |none=>none
 |some (.error e)=>some (.error e)
 |some (.ok (st,a))=>f st a
def eP(ev:LSt->Ex->Option (Rs (LSt×Nat))):LSt->List Ex->Option (Rs (LSt×List Nat))
 |st,[]=>some (.ok (st,[]))
 |st,e::r=>match ev st e with
  |none=>none
  |some (.error f)=>some (.error f)
  |some (.ok (s1,a))=>match eP ev s1 r with
   |none=>none
   |some (.error f)=>some (.error f)
   |some (.ok (s2,xs))=>some (.ok (s2,a::xs))
def dQ:Nat->LSt->Loc->Ex->Option (Rs (LSt×Nat))
 |0,_,_,_=>none
 |_+1,st,_,.num t=>some (eg st ⟨1,1,0,0,0,me t.text⟩ t.pos)
 |_+1,st,loc,.name t=>some (match dX st loc t with|.error f=>.error f|.ok v=>.ok (st,v))
 |f+1,st,loc,.neg o e=>iE (dQ f st loc e) λs a=>some (eg s (dL 6 (dS s a) (a:Int) 0 0) o.pos)
 |f+1,st,loc,.bin o a b=>iE (dQ f st loc a) λs1 x=>iE (dQ f s1 loc b) λs2 y=>some (lz s2 o x y)
 |f+1,st,loc,.call t es=>
  match d8 st.names t.text with
  |some (.fn _ ps body)=>
   if ps.length=es.length then
    match eP (λs e=>dQ f s loc e) st es with
    |none=>none
    |some (.error e)=>some (.error e)
    |some (.ok (s1,xs))=>if 500<=s1.calls then some (.error (5,t.pos))else dQ f {s1 with calls:=s1.calls+1} ((ps.map (·.text)).zip xs) body
   else some (.error (3,t.pos))
  |_=>some (.error (3,t.pos))
 |f+1,st,loc,.key1 k e=>iE (dQ f st loc e) λs a=>some (if k.sym=oA then eg s (dL 13 (dS s a) (a:Int) 0 0) k.pos else eg s (dL 9 1 (a:Int) 0 0) k.pos)
 |f+1,st,loc,.key2 k a b=>iE (dQ f st loc a) λs1 x=>iE (dQ f s1 loc b) λs2 y=>some (kS s2 k x y)
 |f+1,st,loc,.key3 k a b c=>iE (dQ f st loc a) λs1 x=>iE (dQ f s1 loc b) λs2 y=>iE (dQ f s2 loc c) λs3 z=>some (po s3 k x y z)
 |f+1,st,loc,.keyN k e n=>iE (dQ f st loc e) λs a=>some (ju s k a n)
 |f+1,st,loc,.put k e i n=>iE (dQ f st loc e) λs a=>some (jK s k a i n)
 |f+1,st,loc,.grad k e x=>match dX st loc x with
  |.error q=>some (.error q)
  |.ok v=>iE (dQ f st loc e) λs a=>some (mg s k a v)
 |f+1,st,loc,.jvp k e x d=>match dX st loc x with
  |.error q=>some (.error q)
  |.ok v=>iE (dQ f st loc e) λs1 a=>iE (dQ f s1 loc d) λs2 y=>some (lX s2 k a v y)
end
section
open Go.RowKit Flt
attribute[local go_sem] dI dG dF
variable{w A bx:World}{x y:List UInt8}{M':Nat->Prop}{P B g k aO n cap:Nat}{v u1 ap u3 u4:Value}{a:Option Addr}{ts:List Tok}{st:LSt}{vs:List Vl}
structure Mv(Maa:Nat->Prop)(W:World)(M':Nat->Prop)(W':World):Prop where
 chg:Chg Maa W W'
 new:∀b,M' b->Maa b\/W.heap.size<=b
theorem Mv.refl(Maa W):Mv Maa W Maa W:=⟨(Kept.refl 0 0 W).chg,λ_ h=>.inl h⟩
theorem Mv.keep{Maa W aq aH}(h:Mv Maa W M' aq)(k:Kept 0 0 aq aH):Mv Maa W M' aH:=
 ⟨⟨k.os.trans h.chg.os,k.tape.trans h.chg.tape,k.output.trans h.chg.output,yan h.chg.size k.size,λi hi V=>(k.block i (yaj hi h.chg.size) xaa).trans (h.chg.block i hi V)⟩,h.new⟩
theorem Mv.of{Maa W}(k:Kept 0 0 W A):Mv Maa W Maa A:=(Mv.refl Maa W).keep k
theorem Mv.trans{Maa e W}(h:Mv Maa W M' A)(k:Mv M' A e bx):Mv Maa W e bx where
 chg:=⟨k.chg.os.trans h.chg.os,k.chg.tape.trans h.chg.tape,k.chg.output.trans h.chg.output,yan h.chg.size k.chg.size,λi hi V=>(k.chg.block i (yaj hi h.chg.size) (λc=>(h.new i c).elim V (λc=>by omega))).trans (h.chg.block i hi V)⟩
 new:=λb I=>(k.new b I).elim (h.new b) (λc=>.inr (yan h.chg.size c))
theorem Mv.bad{Maa W}(h:Mv Maa W M' A)(k:Chg M' A bx):Chg Maa W bx:=
 ⟨k.os.trans h.chg.os,k.tape.trans h.chg.tape,k.output.trans h.chg.output,yan h.chg.size k.size,λi hi V=>(k.block i (yaj hi h.chg.size) (λc=>(h.new i c).elim V (λc=>by omega))).trans (h.chg.block i hi V)⟩
structure TkR(Maa:Nat->Prop)(W:World)(a:Option Addr)(n:Nat)(ts:List Tok):Prop where
 len:ts.length=n
 at_:0<n->∃g off,a=some ⟨g,off,none⟩/\¬Maa g/\TkA W g off n ts
theorem TkA.keepC{D S}(h:TkA w g aO n ts)(k:Chg S w D)(aT:¬S g):TkA D g aO n ts:=
 ⟨h.len,yaj h.lt k.size,λj aK=>(k.cell (p:=⟨g,aO+j*3,none⟩) h.lt aT).trans (h.c0 j aK),λj aK=>(k.cell (p:=⟨g,aO+j*3+1,none⟩) h.lt aT).trans (h.c1 j aK),λj aK=>(k.cell (p:=⟨g,aO+j*3+2,none⟩) h.lt aT).trans (h.c2 j aK)⟩
theorem TkR.mv{Maa W}(h:TkR Maa W a n ts)(k:Mv Maa W M' A):TkR M' A a n ts:=
 ⟨h.len,λV=>by
  obtain⟨g,aO,e,z,J⟩:=h.at_ V
  exact⟨g,_,e,λc=>(k.new g c).elim z (λc=>ih J.lt),J.keepC k.chg z⟩⟩
theorem sx{ts:List Tok}(i j k)(H:k<j-i):((ts.drop i).take (j-i)).getD k h8=ts.getD (i+k) h8:=by
 simp_all
theorem TkA.cut(h:TkA w g aO n ts){i j}(aK:j<=n):TkA w g (aO+i*3) (j-i) ((ts.drop i).take (j-i)):=by
 have ab:=h.len;refine⟨by grind,h.lt,λk H=>?_,λk H=>?_,λk H=>?_⟩
 ·rw[sx i j k H,show aO+i*3+k*3=aO+(i+k)*3 by omega];exact h.c0 _ xaa
 ·rw[sx i j k H,show aO+i*3+k*3=aO+(i+k)*3 by omega];exact h.c1 _ xaa
 rw[sx i j k H,show aO+i*3+k*3=aO+(i+k)*3 by omega];exact h.c2 _ xaa
structure Dgs(l:List UInt8):Prop where
 len:l.length<=15
 d:∀k,k<l.length->48<=bt l k/\bt l k<=57
def iu(x:List UInt8):Prop:=my (fh x)/\(fh x).countP dig<=15
structure TsOK(ts:List Tok):Prop where
 n5:ts.length<=5000
 ti:∀t∈ts,t.sym=fx->Dgs t.text
 tn:∀t∈ts,(t.sym=fx\/t.sym=iS)->iu t.text
structure Bc where
 nm:List UInt8
 fn:Bool
 val:Int
 pa:Option Addr
 pn:Nat
 pc:Nat
 ba:Option Addr
 bn:Nat
 bc:Nat
def h9:Bc:=⟨[],false,0,none,0,0,none,0,0⟩
def Bc.cells(b:Bc):List Value:=[dJ b.nm,.bool b.fn,.int .i64 b.val,.slice b.pa b.pn b.pc,.slice b.ba b.bn b.bc]
def bcF:List Bc->List Value
 |[]=>[]
 |b::r=>b.cells++bcF r
theorem vH(a b):bcF (a++b)=bcF a++bcF b:=by
 induction a<;>grind[bcF]
theorem vI(b):bcF [b]=b.cells:=by simp[bcF]
theorem En:∀(a:List Bc) (k j:Nat),k<a.length->j<5->(bcF a)[k*5+j]? =(a.getD k h9).cells[j]?
 |x::r,0,j,_,aK=>by
  grind[bcF,Bc.cells]
 |x::r,k+1,j,H,aK=>by
  have ar:x.cells.length=5:=rfl
  rw[bcF,yaq xaa,ar,show(k+1)*5+j-5=k*5+j by omega]
  exact En r k j (by grind) aK
def BcOK(Maa:Nat->Prop)(W:World)(b:Bc):Bdg->Prop
 |.val nm v=>b.nm=nm/\b.fn=false/\b.val=(v:Int)
 |.fn nm ps e=>b.nm=nm/\b.fn=true/\TkR Maa W b.pa b.pn ps/\∃ts,Pr 2 [e] ts/\(TsOK ts/\b.bn<=b.bc)/\TkR Maa W b.ba b.bn ts
theorem BcOK.mv{Maa W d}(h:BcOK Maa W b d)(k:Mv Maa W M' A):BcOK M' A b d:=by
 cases d with
 |val bb v=>exact h
 |fn bb ps e=>
  obtain⟨z,J,al,ts,bw,bL,bf⟩:=h;exact⟨z,J,al.mv k,_,bw,bL,bf.mv k⟩
def Mst(P:Nat)(u1 u2 u3 u4:Value)(b:Nat):Prop:=b=P\/u1.ownBlock=some b\/u2.ownBlock=some b\/u3.ownBlock=some b\/u4.ownBlock=some b
structure WS(W:World)(P B:Nat)(u1 u2 u3 u4:Value)(bs:List Bc)(st:LSt):Prop where
 lt:P<W.heap.size
 fr:∀o,W.frozen? ⟨P,o,none⟩=false
 c0:W.cell? ⟨P,0,none⟩=some u1
 c1:W.cell? ⟨P,1,none⟩=some u2
 c2:W.cell? ⟨P,2,none⟩=some u3
 c3:W.cell? ⟨P,3,none⟩=some u4
 c4:W.cell? ⟨P,4,none⟩=some (.int .i64 (st.calls:Int))
 c5:W.cell? ⟨P,5,none⟩=some (.int .i64 0)
 c6:W.cell? ⟨P,6,none⟩=some (.int .i64 0)
 r1:W.ownsRow B 3 1 u1 st.ins.length (st.ins.map (Value.int .i64))
 r2:W.ownsRow B 74 6 u2 st.vs.length (f9 st.vs)
 r3:W.ownsRow B 3 1 u3 st.outs.length (st.outs.map (Value.int .i64))
 r4:W.ownsRow B 70 5 u4 bs.length (bcF bs)
 np:u1.ownBlock≠some P/\u2.ownBlock≠some P/\u3.ownBlock≠some P/\u4.ownBlock≠some P
 ap:Apart u1 u2/\Apart u1 u3/\Apart u1 u4/\Apart u2 u3/\Apart u2 u4/\Apart u3 u4
 nl:bs.length=st.names.length
 nb:∀i,i<bs.length->BcOK (Mst P u1 u2 u3 u4) W (bs.getD i h9) (st.names.getD i (.val [] 0))
 sz:B<=P
theorem Apart.symm{u}(h:Apart u v):Apart v u:=λk H bd=>h k bd H
theorem WS.keep{W}(h:WS W P B u1 ap u3 u4 am st)(k:Kept 0 0 W A):WS A P B u1 ap u3 u4 am st:=by
 have e:∀o,_:=λo=>k.cell (p:=⟨P,o,none⟩) h.lt xaa;exact⟨yaj h.lt k.size,λo=>(k.frozen h.lt xaa).trans (h.fr o),(e 0).trans h.c0,(e 1).trans h.c1,(e 2).trans h.c2,(e 3).trans h.c3,(e 4).trans h.c4,(e 5).trans h.c5,(e 6).trans h.c6,dW h.r1 k,dW h.r2 k,dW h.r3 k,dW h.r4 k,h.np,h.ap,h.nl,λi hi=>(h.nb i hi).mv (Mv.of k),h.sz⟩
def TrO(W:World)(P B:Nat)(u1 u2 u3 u4:Value)(bs:List Bc)(r:Rs (LSt×Nat))(e:Ending)(W':World):Prop:=
 match r with
 |.error (c,p)=>e=.returned (.int .i64 (-1))/\W'.cell? ⟨P,5,none⟩=some (.int .i64 c)/\W'.cell? ⟨P,6,none⟩=some (.int .i64 (p:Int))/\Chg (Mst P u1 u2 u3 u4) W W'
 |.ok (st,v)=>e=.returned (.int .i64 (v:Int))/\∃v1 v2 v3 v4,WS W' P B v1 v2 v3 v4 bs st/\Mv (Mst P u1 u2 u3 u4) W (Mst P v1 v2 v3 v4) W'
structure Bad(W:World)(P:Nat)(Maa:Nat->Prop)(c:Int)(p:Nat)(W':World):Prop where
 c5:W'.cell? ⟨P,5,none⟩=some (.int .i64 c)
 c6:W'.cell? ⟨P,6,none⟩=some (.int .i64 (p:Int))
 chg:Chg Maa W W'
theorem jC{W}(bL:W.cell? ⟨P,5,none⟩=some (h0 0))(bf:W.cell? ⟨P,6,none⟩=some (h0 0))(fr:∀o,W.frozen? ⟨P,o,none⟩=false)(c)(p:Nat)(Maa)(bH:Maa P):
  Calls prog 32 #[ge P,h0 c,h0 p] W λe A=>e=.returned (h0 (-1))/\Bad W P Maa c p A:=by
 have bS:=fr 5;have bd:=fr 6;have bm:M (((W.setCell _ _).setCell ⟨P,6,_⟩ (h0 p)).cell? _=some (h0 c)):=(dR (.inr xaa)).trans (eR bL);have bP:M (((W.setCell ⟨P,5,_⟩ (h0 c)).setCell _ (h0 p)).cell? _=some _):=eR ((dR (.inr xaa)).trans bf);have R3:M _:=Chg.andThen ((d9 W ⟨P,5,none⟩ (h0 c) yab).chg1 bH) ((d9 _ ⟨P,6,none⟩ (h0 p) yab).chg1 bH);clear fr bH;go_enter func32,ntmps32;go_wp2;go_ret;exact⟨rfl,bm.o,bP.o,R3.o⟩
theorem lB{W:World}(f:W.ownsRow B 70 5 v am.length (bcF am))(h:0<am.length):∃g cap,v=hZ g am.length cap/\B<=g/\g<W.heap.size/\am.length<=cap/\
  ∀k,k<am.length->W.cell? ⟨g,k*5,none⟩=some (dJ (am.getD k h9).nm)/\W.cell? ⟨g,k*5+1,none⟩=some (.bool (am.getD k h9).fn)/\W.cell? ⟨g,k*5+2,none⟩=some (h0 (am.getD k h9).val)/\W.cell? ⟨g,k*5+3,none⟩=some (.slice (am.getD k h9).pa (am.getD k h9).pn (am.getD k h9).pc)/\W.cell? ⟨g,k*5+4,none⟩=some (.slice (am.getD k h9).ba (am.getD k h9).bn (am.getD k h9).bc):=by
 obtain⟨_,c⟩|⟨g,cap,bp,rfl,L,bi,U,_,aF,ah⟩:=f.2
 ·omega
 have aG:g<W.heap.size:=by grind
 have key:∀k j,k<am.length->j<5->W.cell? _=(am.getD k _).cells[j]?:=λk j H aK=>by
  rw[cell_of_row W g _ _ _ _ bi,<-Array.getElem?_toList]
  have:(bp.toList.take (am.length*5))[k*5+j]? =(bcF am)[k*5+j]?:=by rw[ah]
  rw[List.getElem?_take_of_lt xaa]at this
  rw[this]
  exact En _ k j H aK
 exact⟨g,_,rfl,L,aG,U,λk H=>⟨key k 0 H xaa,key k 1 H xaa,key k 2 H xaa,key k 3 H xaa,key k 4 H xaa⟩⟩
theorem jD{W:World}(f:W.ownsRow B 70 5 v am.length (bcF am)):∃a cap,v=.slice a am.length cap:=by
 obtain⟨e,c⟩|⟨g,cap,bp,e,_⟩:=f.2<;>grind
def OL(bs:List Bc)(s:List UInt8)(r:Int):Prop:=(∃k:Nat,k<bs.length/\r=(k:Int)/\(bs.getD k h9).nm=s/\∀j,j<k->(bs.getD j h9).nm≠s)\/(r=-1/\∀j,j<bs.length->(bs.getD j h9).nm≠s)
theorem pY{W}(c3:W.cell? ⟨P,3,none⟩=some u4)(f:W.ownsRow B 70 5 u4 am.length (bcF am))(ab:am.length<=100000)(s):
  Calls prog 34 #[ge P,dJ s] W λe A=>∃r,e=.returned (h0 r)/\OL am s r/\A=W:=by
 have b0:M _:=lB f;obtain⟨a,cap,rfl⟩:=jD f;clear f;generalize V:am.length=n at ab c3 b0;have bc:=Q V;clear V;go_enter func34,ntmps34;go_wp2_with fail;go_loopw [5] (λbF A=>A=W/\∃k:Nat,k<=n/\bF=h0 k/\M (∀j,j<k->(am.getD j h9).nm≠s)) (λbF _=>n-(intOf bF).toNat)
 case atStart=>exact⟨rfl,0,yad,rfl,λj aK=>by omega⟩
 case round=>
  obtain⟨rfl,k,H,rfl,bd⟩:=hrel;by_cases aV:k<n
  ·obtain⟨g,bZ,e,_,_,_,bf⟩:=b0.o xaa;cases e;have c1:=(bf k aV).1;have ay:M (∀x,(am.getD k h9).nm=x->x=s->_):=λx z J=>z.trans J;generalize ar:(am.getD k _).nm=x at c1;have be:=Q ar;clear ar bf;cases an:(x==s)
   ·have R:M (∀j,j<k+1->(am.getD j _).nm≠s):=λj aK=>by
     by_cases c:j=k
     ·subst c;rw[be.o];grind
     ·exact bd.o j xaa
    go_wp2_with fail;exact xcc
   have R:M ((am.getD k h9).nm=s):=by grind
   go_wp2_with fail;go_ret;exact⟨_,rfl,.inl ⟨k,it bc.o aV,rfl,R.o,bd.o⟩,rfl⟩
  obtain rfl:k=n:=xaa;go_wp2_with fail;go_ret;exact⟨_,rfl,.inr ⟨rfl,it bc.o bd.o⟩,rfl⟩
theorem Eo(s w):Calls prog 61 #[dJ s] w λe D=>e=.returned (h0 (lw s))/\D=w:=by
 unfold lw;by_cases aC:s=[43]
 ·rw[h3 aC];have bJ:(s==[43])=true:=by grind
  clear aC;exact xel
 rw[h2 aC];have bJ:=yav aC;by_cases z:s=[45]
 ·rw[h3 z];have ba:(s==[45])=true:=by grind
  clear aC z;exact xel
 rw[h2 z];have ba:=yav z;by_cases J:s=[42]
 ·rw[h3 J];have bu:(s==[42])=true:=by grind
  exact xhb
 rw[h2 J];have bu:=yav J;exact xhb
theorem sA(x y){q}(ts:List Tok)(k)(h:k<ts.length):jB x y q (ts.take (k+1))=ii x y (jB x y q (ts.take k)) (ts.getD k h8):=by
 rw[yas h,eh,yah,yal h];rfl
theorem OM(x y):∀(ts:List Tok) (q:OpS),(jB x y q ts).i=q.i+ts.length
 |[],q=>rfl
 |t::ts,q=>by
  rw[dN,OM x y _,yap]
  grind[ii]
theorem ON(x y):∀(ts:List Tok) (q:OpS),q.d-ts.length<=(jB x y q ts).d/\(jB x y q ts).d<=q.d+ts.length
 |[],q=>by rw[eU];simp
 |t::ts,q=>by
  rw[dN,yap]
  have z:=ON x y ts (ii x y q t)
  grind[ii]
theorem PX(x y q t):(ii x y q t).b=iT t.sym:=by unfold ii;grind
def opQ(x y:List UInt8)(ts:List Tok)(k:Nat):OpS:=jB x y ⟨0,0,-1,false⟩ (ts.take k)
theorem OO(h:k<=ts.length):(opQ x y ts k).i=k:=by
 unfold opQ;rw[OM,List.length_take];show 0+_=_;omega
theorem OP(h:k<ts.length):(opQ x y ts (k+1)).b=iT (ts.getD k h8).sym:=by
 unfold opQ;rw[sA x y _ k h,PX]
theorem Ep(h:k<ts.length):opQ x y ts (k+1)=ii x y (opQ x y ts k) (ts.getD k h8):=sA x y ts k h
theorem Mz:-((k:Int))<=(opQ x y ts k).d/\(opQ x y ts k).d<=k:=by
 have h:=ON x y (ts.take k) ⟨0,0,-1,false⟩;have J:(ts.take k).length<=k:=by rw[List.length_take];omega
 unfold opQ;simp only at h;omega
theorem fe(W g aO m cap ts)(f:TkA W g aO m ts)(aR:m<=5000)(x y):
  Calls prog 59 #[.slice (some ⟨g,aO,none⟩) m cap,dJ x,dJ y] W λe A=>e=.returned (h0 (opM x y ts))/\A=W:=by
 have bk:=Q f;have bf:=Q f.len;have bS:M (opM x y ts=(opQ x y ts m).at_):=by show _=_;unfold opM opQ;rw[<-f.len,List.take_length]
 clear f;rw[bS.o];go_enter func59,ntmps59;go_wp2_with fail;go_loopw [7,8,9] (λC aC bF A=>A=W/\∃k:Nat,k<=m/\bF=h0 k/\C=h0 (opQ x y ts k).d/\aC=h0 (opQ x y ts k).at_) (λ_ _ bF _=>m-(intOf bF).toNat)
 case atStart=>exact⟨rfl,0,yad,rfl,rfl,rfl⟩
 case round=>
  obtain⟨rfl,k,H,rfl,rfl,rfl⟩:=hrel;by_cases aV:k<m
  ·have ay:k<ts.length:=by rw[bf.o];exact aV
   have c0:=bk.o.c0 k aV;have bY:M _:=Ep (x:=x) (y:=y) ay;have aj:=Mz (x:=x) (y:=y) (ts:=ts) (k:=k);have hi:=OO (x:=x) (y:=y) (ts:=ts) (k:=k) xaa;have ad:M (k=0->(opQ x y ts k).b=false):=λh=>by subst h;rfl
   have ax:M (∀q,k=q+1->(opQ x y _ k).b=iT (ts.getD q _).sym):=λq h=>by subst h;exact OP xaa
   have bP:M (∀q,k=q+1->_):=λq h=>bk.o.c0 q xaa;generalize opQ x y _ k=i1 at bY aj hi ad ax⊢;generalize ts.getD k _=af at c0 bY;obtain⟨j,d,a,b⟩:=i1;simp only at aj hi bY ad ax⊢;subst hi;by_cases z:af.sym=[40]
   ·have R:M (opQ x y _ _=⟨j+1,d+1,a,_⟩):=bY.o.trans (vz z);have ba:(af.sym==[40])=true:=by rw[z];rfl
    have a9:IntKind.i64.wrap (d+1)=d+1:=by rw[IntKind.wrap_i64];omega
    generalize af.sym=s at c0 ba;clear z bY ad ax bP ay;exact xdn
   by_cases J:af.sym=[41]
   ·have R:M (opQ x y _ _=⟨j+1,d-1,a,_⟩):=bY.o.trans (vA J);have ba:=yav z;have bu:(af.sym==[41])=true:=by rw[J];rfl
    have a9:IntKind.i64.wrap (d-1)=d-1:=by rw[IntKind.wrap_i64];omega
    generalize af.sym=s at c0 ba bu;clear z J bY ad ax bP ay;exact xdn
   have ba:=yav z;have bu:=yav J;have bl:M (¬(d=0/\b=true/\(af.sym=x\/af.sym=y))->opQ x y _ _=⟨j+1,d,a,_⟩):=λh=>bY.o.trans (l9 z J h);have G:M ((d=0/\b=true/\(af.sym=x\/af.sym=y))->opQ x y _ _=⟨j+1,d,j,_⟩):=λh=>bY.o.trans (vB z J h);clear bY z J;generalize iT _=T at bl G;generalize af.sym=s at c0 ba bu bl G;by_cases aT:d=0
   ·subst aT;cases j with
    |zero=>
     have R:M _:=bl.o (λc=>by have:=ad.o rfl;rw[this]at c;exact absurd c.2.1 xac);clear ad ax bP ay bl G;rw[Nat.zero_mul,Nat.add_zero]at c0;go_wp2_with fail;go_roundw
     case rel=>exact⟨trivial,0+1,by omega,by go_num,by rw[R.o],by rw[R.o]⟩
     case measure=>simp[intOf];omega
    |succ q=>
     have I:=ax.o q rfl;have c1:=bP.o q rfl;generalize (ts.getD q _).sym=ps at I c1;have o:=Q I;clear I ad ax bP ay;have a9:IntKind.i64.wrap ((q+1:Nat)-1)=q:=by rw[IntKind.wrap_i64];omega
     have bj:(0:Int)<(q:Nat)+1:=xaa;cases bv:(s==x)
     ·have l:s≠x:=λc=>by rw[c]at bv;simp at bv
      cases p:(s==y)
      ·have t:s≠y:=λc=>by rw[c]at p;simp at p
       have R:M _:=bl.o (λc=>c.2.2.elim l t);clear l t bl G c1;go_wp2_with fail;go_roundw
       case rel=>exact⟨trivial,q+1+1,by omega,by go_num,by rw[R.o],by rw[R.o]⟩
       case measure=>simp[intOf];omega
      have r:s=y:=by simpa using p
      have S:M (iT _=false->_):=λh=>bl.o (λc=>by rw[o.o,h]at c;exact absurd c.2.1 xac);have i:M _:=λh=>G.o ⟨rfl,o.o.trans h,.inr r⟩;clear l r bl G o;cases b1:(ps==[110,97,109,101])
      case true=>
       have R:M _:=i.o (by show iT ps=_;unfold iT eu fx iS;rw[b1];rfl);clear S i;go_wp2_with fail;go_roundw
       case rel=>exact⟨trivial,q+1+1,by omega,by go_num,by rw[R.o],by rw[R.o]⟩
       case measure=>simp[intOf];omega
      case false=>
       cases bw:(ps==[105,110,116])
       case true=>
        have R:M _:=i.o (by show iT ps=_;unfold iT eu fx iS;rw[b1,bw];rfl);clear S i;go_wp2_with fail;go_roundw
        case rel=>exact⟨trivial,q+1+1,by omega,by go_num,by rw[R.o],by rw[R.o]⟩
        case measure=>simp[intOf];omega
       case false=>
        cases p2:(ps==[100,101,99])
        case true=>
         have R:M _:=i.o (by show iT ps=_;unfold iT eu fx iS;rw[b1,bw,p2];rfl);clear S i;go_wp2_with fail;go_roundw
         case rel=>exact⟨trivial,q+1+1,by omega,by go_num,by rw[R.o],by rw[R.o]⟩
         case measure=>simp[intOf];omega
        case false=>
         cases ah:(ps==[41])
         case true=>
          have R:M _:=i.o (by show iT ps=_;unfold iT eu fx iS;rw[b1,bw,p2,ah];rfl);clear S i;go_wp2_with fail;go_roundw
          case rel=>exact⟨trivial,q+1+1,by omega,by go_num,by rw[R.o],by rw[R.o]⟩
          case measure=>simp[intOf];omega
         case false=>
          have R:M _:=S.o (by show iT ps=_;unfold iT eu fx iS;rw[b1,bw,p2,ah];rfl);clear S i;go_wp2_with fail;go_roundw
          case rel=>exact⟨trivial,q+1+1,by omega,by go_num,by rw[R.o],by rw[R.o]⟩
          case measure=>simp[intOf];omega
     have f0:s=x:=by simpa using bv
     have S:M (iT _=false->_):=λh=>bl.o (λc=>by rw[o.o,h]at c;exact absurd c.2.1 xac);have i:M _:=λh=>G.o ⟨rfl,o.o.trans h,.inl f0⟩;clear f0 bl G o;cases b1:(ps==[110,97,109,101])
     case true=>
      have R:M _:=i.o (by show iT ps=_;unfold iT eu fx iS;rw[b1];rfl);clear S i;go_wp2_with fail;go_roundw
      case rel=>exact⟨trivial,q+1+1,by omega,by go_num,by rw[R.o],by rw[R.o]⟩
      case measure=>simp[intOf];omega
     case false=>
      cases bw:(ps==[105,110,116])
      case true=>
       have R:M _:=i.o (by show iT ps=_;unfold iT eu fx iS;rw[b1,bw];rfl);clear S i;go_wp2_with fail;go_roundw
       case rel=>exact⟨trivial,q+1+1,by omega,by go_num,by rw[R.o],by rw[R.o]⟩
       case measure=>simp[intOf];omega
      case false=>
       cases p2:(ps==[100,101,99])
       case true=>
        have R:M _:=i.o (by show iT ps=_;unfold iT eu fx iS;rw[b1,bw,p2];rfl);clear S i;go_wp2_with fail;go_roundw
        case rel=>exact⟨trivial,q+1+1,by omega,by go_num,by rw[R.o],by rw[R.o]⟩
        case measure=>simp[intOf];omega
       case false=>
        cases ah:(ps==[41])
        case true=>
         have R:M _:=i.o (by show iT ps=_;unfold iT eu fx iS;rw[b1,bw,p2,ah];rfl);clear S i;go_wp2_with fail;go_roundw
         case rel=>exact⟨trivial,q+1+1,by omega,by go_num,by rw[R.o],by rw[R.o]⟩
         case measure=>simp[intOf];omega
        case false=>
         have R:M _:=S.o (by show iT ps=_;unfold iT eu fx iS;rw[b1,bw,p2,ah];rfl);clear S i;go_wp2_with fail;go_roundw
         case rel=>exact⟨trivial,q+1+1,by omega,by go_num,by rw[R.o],by rw[R.o]⟩
         case measure=>simp[intOf];omega
   have R:M _:=bl.o (λc=>aT c.1);have fu:=yav aT;clear ad ax bP ay bl G aT;exact xdn
  obtain rfl:k=m:=xaa;go_wp2_with fail;go_ret;exact⟨rfl,rfl⟩
theorem Er(l k h):(((⟨l.toArray⟩:ByteArray)[k]'h).toNat:Int)=bt l k:=by
 have H:k<l.length:=by rw[<-mb];exact h
 unfold bt;rw[yah,yal H];rfl
theorem pZ(l k)(h:k<l.length):ek (l.take (k+1))=ek (l.take k)*10+(bt l k-48):=by
 unfold ek;rw[yas h,List.foldl_append];unfold bt;simp_all
theorem um{l}(h:Dgs l):∀k,k<=l.length->0<=ek (l.take k)/\ek (l.take k)<10 ^ k
 |0,_=>by rw[List.take_zero];exact⟨by decide,by decide⟩
 |k+1,H=>by
  have O:=um h k xaa
  have aT:=h.d k xaa
  rw[pZ l k xaa,Int.pow_succ]
  omega
theorem OQ:∀k:Nat,k<=15->(10:Int) ^ k<=1000000000000000:=by
 intro k H;have:∀k:Fin 16,(10:Int) ^ k.1<=1000000000000000:=xab;exact this ⟨k,by omega⟩
theorem lY{l}(h:Dgs l)(H:k<=l.length):0<=ek (l.take k)/\ek (l.take k)<1000000000000000:=by
 have z:=um h k H;have J:=OQ k (ih h.len);omega
theorem cR.qdh(h:Zp:=by
 go_wp2_with fail;go_roundw
 case rel=>exact⟨trivial,k+1,by omega,by go_num,by rw[R.o]⟩
 case measure=>simp[intOf];omega):Zp:=h
open cR in
theorem xL(t)(h:Dgs t.text)(W):Calls prog 35 #[iU t] W λe A=>e=.returned (h0 (ek t.text))/\Kept 0 0 W A:=by
 obtain⟨ba,ps,l⟩:=t;simp only at h⊢;unfold iU;simp only;have aJ:=Q h;have ab:=h.len;have aw:M _:=gK W ba ps l;have ay:M _:=dE 0 0 W (.cells #[dJ ba,h0 ps,dJ l] 39);have ai:=mb l;clear h;go_enter func35,ntmps35;go_wp2_with fail;change Code.wp _ _ _ _ (W.alloc (.cells _ 39));generalize W.alloc _=aq at aw ay⊢;have aU:=aw.o.c2;go_loopw [3,4] (λv bF A=>A=aq/\∃k:Nat,k<=l.length/\bF=h0 k/\v=h0 (ek (l.take k))) (λ_ bF _=>l.length-(intOf bF).toNat)
 case atStart=>exact⟨rfl,0,yad,rfl,rfl⟩
 case round=>
  obtain⟨rfl,k,H,rfl,rfl⟩:=hrel;by_cases aV:k<l.length
  ·have aY:=Er l k;have aT:=aJ.o.d k aV;have I:=lY aJ.o H;have R:M _:=pZ l k aV;generalize bt l k=x at aY aT R;generalize ek _=v at I R⊢;have a9:IntKind.i64.wrap (v*10)=v*10:=by rw[IntKind.wrap_i64];omega
   have bj:IntKind.u8.wrap (x-48)=x-48:=by grind[IntKind.wrap,IntKind.bits]
   exact qdg
  obtain rfl:k=l.length:=xaa;have bH:¬((l.length:Int)<l.length):=xaa;go_wp2_with fail;go_ret;exact⟨rfl,ay.o⟩
theorem bC.qbz(h:Zp:=by
 have aq:g9≠P:=λe=>by
  subst e
  obtain c|c:=ce
  ·exact p2 c
  ·have:=h.lt;omega
 have aI:(Value.slice _ _ _).ownBlock≠some P:=λc=>aq ((l P).1 c);have C:∀o,_:=λo=>bz.cell (p:=⟨P,o,none⟩) h.lt p2;have es:∀o,o≠1->(bn.setCell ⟨P,1,_⟩ (hZ g9 n9 cap9)).cell? _=W.cell? _:=λo av=>(dR (.inr (λe=>av e.symm))).trans (C o);have O:=(d9 (lo:=P) (hi:=P+1) bn ⟨P,1,none⟩ (hZ g9 n9 cap9) yab)
 have bc:Mv (Mst P u1 ap u3 u4) W (Mst P u1 (hZ g9 n9 cap9) u3 u4) (bn.setCell ⟨P,1,none⟩ (hZ g9 n9 cap9)):=by
  refine⟨Chg.andThen ⟨bz.os,bz.tape,bz.output,bz.size,λi hi V=>bz.block i hi (λc=>V (.inr (.inr (.inl c))))⟩ (O.chg1 (.inl rfl)),λb I=>?_⟩;obtain c|c|c|c|c:=I
  ·exact .inl (.inl c)
  ·exact .inl (.inr (.inl c))
  ·rw[l]at c;subst c;obtain d|d:=ce
   ·exact .inl (.inr (.inr (.inl d)))
   omega
  ·exact .inl (.inr (.inr (.inr (.inl c))))
  exact .inl (.inr (.inr (.inr (.inr c))))
 exact qer):Zp:=h
theorem bC.qes(h:Zp:=by
 refine⟨⟨by simpa using yaj h.lt bz.size,λo=>?_,(es 0 xab).trans h.c0,eR ((C 1).trans h.c1),(es 2 xab).trans h.c2,(es 3 xab).trans h.c3,(es 4 xab).trans h.c4,(es 5 xab).trans h.c5,(es 6 xab).trans h.c6,?_,?_,?_,?_,⟨bw,aI,ah,ar⟩,⟨m h.r1 p,q,z,(m h.r3 r.symm).symm,(m h.r4 D.symm).symm,J⟩,h.nl,λi hi=>(h.nb i hi).mv bc,h.sz⟩,bc⟩
 ·have:=(bz.frozen h.lt p2).trans (h.fr o);simp[this]
 ·exact dP (fR h.r1 bz (λb I c=>p b I c)) bw
 ·subst V;exact dP aW aI
 ·exact dP (fR h.r3 bz (λb I c=>r b c I)) ah
 exact dP (fR h.r4 bz (λb I c=>D b c I)) ar):Zp:=h
open bC in
theorem WS.vals{W bn}(h:WS W P B u1 ap u3 u4 am st)(bz:Chg (λb=>ap.ownBlock=some b) W bn){g9 n9 cap9}(V:n9=vs.length)(aW:bn.ownsRow B 74 6 (hZ g9 n9 cap9) n9 (f9 vs))(ce:ap.ownBlock=some g9\/W.heap.size<=g9):
  WS (bn.setCell ⟨P,1,none⟩ (hZ g9 n9 cap9)) P B u1 (hZ g9 n9 cap9) u3 u4 am {st with vs:=vs}/\Mv (Mst P u1 ap u3 u4) W (Mst P u1 (hZ g9 n9 cap9) u3 u4) (bn.setCell ⟨P,1,none⟩ (hZ g9 n9 cap9)):=by
 exact qby
theorem jo{W:World}{e s:Nat}{G}(f:W.ownsRow B e s v n G):∃a cap,v=.slice a n cap:=by
 obtain⟨e,c⟩|⟨g,cap,bp,e,_⟩:=f.2<;>grind
theorem vJ{W G}(f:W.ownsRow B 3 1 (.slice a n cap) n (G.map (Value.int .i64)))(ab:G.length=n):IS W 0 W.heap.size a n G:=by
 refine⟨ab,?_⟩;obtain⟨_,c⟩|⟨g,c,bp,e,L,bi,U,_,aF,ah⟩:=f.2
 ·exact .inl c
 cases e;have aG:g<W.heap.size:=by grind
 refine .inr ⟨g,0,rfl,yad,aG,aG,λk H=>?_⟩;rw[Nat.zero_add,cell_of_row W g _ _ _ _ bi,<-Array.getElem?_toList];exact xhc
theorem Es{W}(f:W.ownsRow B 74 6 (.slice a n cap) n (f9 vs))(ab:vs.length=n)(H:∀v∈vs,v.k<18446744073709551616):VS W 0 W.heap.size a n vs:=by
 by_cases aC:n=0
 ·exact⟨ab,H,.inl aC⟩
 obtain⟨g,c,e,L,bi,_,ae⟩:=jX f xaa ab;cases e;exact ae.vs H
theorem WS.gs{W}(h:WS W P B u1 ap u3 u4 am st)(H:∀v∈st.vs,v.k<18446744073709551616):∃a1 c1 a2 c2 a3 c3,u1=.slice a1 st.ins.length c1/\ap=.slice a2 st.vs.length c2/\u3=.slice a3 st.outs.length c3/\GS W a1 st.ins.length a2 st.vs.length a3 st.outs.length st.ins st.vs st.outs:=by
 obtain⟨a1,c1,K⟩:=jo h.r1;obtain⟨a2,c2,a6⟩:=jo h.r2;obtain⟨a3,c3,ag⟩:=jo h.r3;refine⟨_,_,_,_,_,_,K,a6,ag,⟨vJ (by have:=h.r1;rw[K]at this;exact this) rfl,Es (by have:=h.r2;rw[a6]at this;exact this) rfl H,vJ (by have:=h.r3;rw[ag]at this;exact this) rfl⟩⟩
def PY(op len C:Int)(K:Nat)(xa xb xc:List Nat):List Nat:=
 if PO op len C xa.length xb.length xc.length then (List.range len.toNat).map (elem op C K xa xb xc) else[]
end
section
open Go.RowKit Flt
def one(xss:List (List Nat))(v:Vl)(Vs:List (List Nat)):List Nat:=
 if v.op=0 then xss.getD v.a.toNat [] else
  PY v.op v.len v.c v.k (if 0<cnt v.op then Vs.getD v.a.toNat [] else[]) (if 1<cnt v.op then Vs.getD v.b.toNat [] else[]) (if 2<cnt v.op then Vs.getD v.c.toNat [] else[])
end
section
open Go.RowKit Flt
attribute[local go_sem] dI dG dF
variable{t:List UInt8}{i B:Nat}
theorem zx{ax x y}:cop ax x y<18446744073709551616:=by
 unfold cop;cases h:floatBits ax .f64 x y with
 |none=>decide
 |some r=>
  have:=floatBits_wf h;simpa[Lit.wf] using this
theorem MA(s w):Calls prog 116 #[dJ s,dJ [46]] w λe D=>e=.returned (h0 (Lib.indexByte s 46))/\D=w:=by
 by_cases h:s=[46]
 ·rw[show Lib.indexByte s _=0 by rw[h];rfl];subst h;go_enter func116,ntmps116;go_wp2;go_ret;exact⟨rfl,rfl⟩
 have z:=yav (λe=>h e.symm);have J:=yav h;have bf:M (Calls _ _ #[dJ s,.int _ _] w λe D=>e=.returned (.int _ (Lib.indexByte s 46))/\D=w):=AB _ 46 w;clear h;generalize Lib.indexByte s _=q at bf⊢;go_enter func116,ntmps116;exact xfs
theorem Et(s w):Calls prog 74 #[dJ s,dJ [46]] w λe D=>e=.returned (.bool (decide ((46:UInt8)∈s)))/\D=w:=by
 rw[<-vC];have cb:M _:=MA s w;generalize Lib.indexByte s _=q at cb⊢
 have bY:M (Calls prog 96 #[dJ s,dJ [46]] w λe D=>e=.returned (h0 q)/\D=w):=by
  go_enter func96,ntmps96;go_wp2_with (go_at_call 116;refine yai cb.o ?_;rintro e Z ⟨rfl,X⟩;obtain rfl:=X.symm);go_ret;exact⟨rfl,rfl⟩
 clear cb;go_enter func74,ntmps74;go_wp2_with (go_at_call 96;refine yai bY.o ?_;rintro e Z ⟨rfl,X⟩;obtain rfl:=X.symm);go_ret;exact⟨rfl,rfl⟩
def eV(s:List UInt8):Int:=if pi (bt s 0)=true then 6 else if lu s=true then 3 else if jy (bt s 0)=true then 2 else if (46:UInt8)∈s then 5 else 4
theorem Eu(s)(aC:0<s.length)(w):Calls prog 47 #[dJ s] w λe D=>e=.returned (h0 (eV s))/\D=w:=by
 have ai:=mb s;have aY:=Er s 0;have O:M _:=D6 (bt s 0) w;have ay:M _:=Mq s w;have bf:M _:=zt (bt s 0) w;have bu:M _:=Et s w
 have a:M (eV s=if pi (bt s 0)=true then 6 else if lu s=true then 3 else if jy (bt s 0)=true then 2 else if decide (46∈s)=true then 5 else 4):=by
  show _=_;unfold eV;simp only[decide_eq_true_eq]
 generalize eV s=ae at a⊢;generalize lu s=aV at ay a;generalize decide (46∈s)=a5 at bu a;generalize pi _=a0 at O a;generalize jy _=aD at bf a;generalize bt s 0=x at aY O bf;have b:(0:Int)<s.length:=xaa;cases a0
 ·cases aV
  ·cases aD
   ·cases a5
    ·have R:M (ae=4):=a.o;exact xcg
    have R:M (ae=5):=a.o;exact xcg
   have R:M (ae=2):=a.o;clear a;go_enter func47,ntmps47
   go_wp2_with (first
    |(go_at_call 46;refine yai O.o ?_;rintro e Z ⟨rfl,X⟩;obtain rfl:=X.symm)
    |(go_at_call 73;refine yai ay.o ?_;rintro e Z ⟨rfl,X⟩;obtain rfl:=X.symm)
    |(go_at_call 44;refine yai bf.o ?_;rintro e Z ⟨rfl,X⟩;obtain rfl:=X.symm))
   go_ret;rw[R.o];exact⟨rfl,rfl⟩
  have R:M (ae=3):=a.o;clear a;go_enter func47,ntmps47
  go_wp2_with (first
   |(go_at_call 46;refine yai O.o ?_;rintro e Z ⟨rfl,X⟩;obtain rfl:=X.symm)
   |(go_at_call 73;refine yai ay.o ?_;rintro e Z ⟨rfl,X⟩;obtain rfl:=X.symm))
  go_ret;rw[R.o];exact⟨rfl,rfl⟩
 have R:M (ae=6):=a.o;clear a;go_enter func47,ntmps47;go_wp2_with (go_at_call 46;refine yai O.o ?_;rintro e Z ⟨rfl,X⟩;obtain rfl:=X.symm);go_ret;rw[R.o];exact⟨rfl,rfl⟩
structure PTk where
 kind:Int
 text:List UInt8
 at_:Nat
def wdE(t:List UInt8)(i:Nat):Nat:=if dig (bt t i)=true then jl t i else if jy (bt t i)=true then eF jz t i else i+1
theorem Ev(h:i<t.length):i<wdE t i:=by
 grind[wdE,pd,iV,jz]
theorem MB(h:i<t.length):wdE t i<=t.length:=by
 grind[wdE,pe,iC]
def pq(x:Int):Bool:=dig x||jy x||pi x
def scM(t:List UInt8)(i:Nat):List PTk:=
 if h:i<t.length then
  if od (bt t i)=true then scM t (i+1)
  else if _h2:bt t i=35 then scM t (eF j9 t i)
  else if pq (bt t i)=true then⟨eV (fJ t i (wdE t i)),fJ t i (wdE t i),i⟩::scM t (wdE t i)
  else[⟨1,[],i⟩]
 else[⟨0,[],i⟩]
termination_by t.length-i
decreasing_by
 ·omega
 ·grind[iV,j9]
 ·have:=Ev h;omega
theorem AD(h:¬i<t.length):scM t i=[⟨0,[],i⟩]:=by rw[scM,dif_neg h]
theorem uo(h:i<t.length)(z:od (bt t i)=true):scM t i=scM t (i+1):=by rw[scM,dif_pos h,h3 z]
theorem xM(h:i<t.length)(z:od (bt t i)=false)(J:bt t i=35):scM t i=scM t (eF j9 t i):=by
 grind[scM]
theorem pr(h:i<t.length)(z:od (bt t i)=false)(J:bt t i≠35)(al:pq (bt t i)=true):scM t i=⟨eV (fJ t i (wdE t i)),fJ t i (wdE t i),i⟩::scM t (wdE t i):=by
 grind[scM]
theorem uq(h:i<t.length)(z:od (bt t i)=false)(J:bt t i≠35)(al:pq (bt t i)=false):scM t i=[⟨1,[],i⟩]:=by
 grind[scM]
def ptc(k:PTk):List Value:=[.int .i64 k.kind,dJ k.text,.int .i64 (k.at_:Int)]
def ptF:List PTk->List Value
 |[]=>[]
 |k::r=>ptc k++ptF r
theorem Iy(a b):ptF (a++b)=ptF a++ptF b:=by
 induction a<;>grind[ptF]
theorem Iz(k):ptF [k]=ptc k:=by simp[ptF]
def PkR(W:World)(B:Nat)(v:Value)(ts:List PTk):Prop:=W.ownsRow B 84 3 v ts.length (ptF ts)
theorem PkR.keep{W A}(f:PkR W B v ts)(k:Kept 0 0 W A):PkR A B v ts:=dW f k
theorem PkR.nil(W B):PkR W B (.slice none 0 0) []:=yau _ _
theorem MC:(prog.info? 84).map (λi=>(i.zero,i.size,i.bytes))=some (some (.agg #[h0 0,.string ⟨#[]⟩,h0 0]),3,32):=by kernel_rfl
theorem vK:∃bS,prog.info? 84=some bS/\bS.zero=some (.agg #[h0 0,.string ⟨#[]⟩,h0 0])/\bS.size=3/\bS.bytes=32:=by
 have h:=MC;simp_all
theorem nD(w:World)(k T):∀j u,(ptc k)[j]? =some u->(w.alloc (.cells #[h0 k.kind,dJ k.text,h0 k.at_] T)).cell? ((⟨w.heap.size,0,none⟩:Addr).add j)=some u:=by
 exact xgc
theorem i6(w){bE rest o a i1}(an:o.guard=none)(s x)
  (av:o.op=.call {callee:=.builtin .append,args:=#[s,x],argTypes:=#[51,51]})
  (B) (v) (ts) (ai:a.eval s=v) (aW:PkR w B v ts)
  (I) (k) (ar:a.eval x=.slice (some I) 1 1) (C:∀j u,(ptc k)[j]? =some u->w.cell? (I.add j)=some u)
  (F:ts.length+1<=1000000) (l:B<=w.heap.size)
  (h:∀g cap n D,n=(ts++[k]).length->PkR D B (hZ g n cap) (ts++[k])->Chg (λb=>v.ownBlock=some b) w D->(v.ownBlock=some g\/g=w.heap.size)->wpList prog bE i1 rest (a.put o.dst (hZ g n cap)) D):wpList prog bE i1 (o::rest) a w:=by
 obtain⟨bS,hi,ch,b6,ci⟩:=vK;refine wpList_append_lies w an s x _ av B 84 _ _ 3 _ underlying51 hi ch b6 ci rfl xab v _ _ ai aW _ 1 1 _ ar rfl C ?_ xab (by unfold maxLen;omega) xaa l _ rfl ?_
 ·intro u bd;simp[ptc]at bd;obtain rfl|rfl|rfl:=bd<;>rfl
 intro g cap D z J al _;have e:ts.length+1=(ts++[k]).length:=by grind
 rw[e]at z⊢;refine h g _ _ _ rfl ?_ (eD J) al;unfold PkR;rw[Iy,Iz];exact z
theorem pt{w W A}(ax:w.heap.size<=B)(k:Kept 0 0 w W)(f:PkR W B v ts)(c:Chg (λb=>v.ownBlock=some b) W A):Kept 0 0 w A:=
 Chg.kept k c (λ_ hi=>yan ax (dO f hi).1)
end
section
open Go.RowKit Flt
variable{t s x:List UInt8}{n i:Nat}{k:Tok}{ts us:List Tok}
def cvT(k:Tok):PTk:=if k.sym=[] then⟨1,[],k.pos⟩ else⟨eV k.text,k.text,k.pos⟩
def clT(t:List UInt8)(l:List Tok):List PTk:=if (l.getLast?.map (·.sym))=some [] then[] else[⟨0,[],t.length⟩]
theorem xN{l}(h:k.sym≠[]):clT t (k::l)=clT t l:=by
 cases l with
 |nil=>unfold clT;simp[h]
 |cons x r=>unfold clT;rw[List.getLast?_cons_cons]
def sC:List (List UInt8):=[[43],[45],[42],[47],[40],[41],[44],[59],[58],[61]]
def TkC(k:Tok):Prop:=k.sym=[]\/(k.sym=eu/\eV k.text=2)\/(k.sym=fx/\eV k.text=4)\/(k.sym=iS/\eV k.text=5)\/(k.sym=k.text/\k.text∈keysL)\/(k.sym=k.text/\k.text∈sC)
theorem Ew:∀s∈keysL,eV s=3:=xab
theorem B4:∀s∈sC,eV s=6:=xab
theorem IA:∀s∈keysL,jy (bt s 0)=true:=xab
theorem IB:∀n:Nat,n<128->jy (n:Int)=true->pi (n:Int)=false:=xab
theorem IC:∀n:Nat,n<128->dig (n:Int)=true->pi (n:Int)=false/\jy (n:Int)=false:=xab
theorem Ey(t i):∃n:Nat,bt t i=(n:Int):=⟨_,rfl⟩
theorem Ez(h:jy (bt t i)=true):pi (bt t i)=false:=by
 obtain⟨n,e⟩:=Ey t i;grind[IB,jy]
theorem xO(h:dig (bt t i)=true):pi (bt t i)=false/\jy (bt t i)=false:=by
 obtain⟨n,e⟩:=Ey t i;rw[e]at h⊢;refine IC n ?_ h;have:=mS h;omega
theorem ur(s):(46:UInt8)∈s↔∃k,k<s.length/\bt s k=46:=by
 constructor
 ·intro h;obtain⟨k,H,e⟩:=List.getElem_of_mem h;refine⟨k,H,?_⟩;unfold bt;simp_all
 rintro⟨k,H,e⟩;unfold bt at e;rw[yah,yal H]at e;simp only[Option.getD_some]at e
 have a6:s[k]=46:=by
  apply UInt8.toNat_inj.1;have:(46:UInt8).toNat=46:=rfl;omega
 grind
theorem EA(hi:i<t.length):TkC (nxT t i):=by
 unfold nxT;by_cases ab:jy (bt t i)=true
 ·rw[h3 ab];have g0:=iV (p:=jz) hi (by unfold jz;grind);have i1:=iC jz t i xaa;have aC:bt (fJ t i (eF jz t i)) 0=bt t i:=by rw[oB xaa,Nat.add_zero]
  grind[TkC,jQ,eV,lu,Ez]
 rw[h2 ab];by_cases aT:dig (bt t i)=true
 ·rw[h3 aT];have i1:=pe hi;have g0:=pd hi aT;have aC:bt (fJ t i (jl t i)) 0=bt t i:=by rw[oB xaa,Nat.add_zero]
  have bD:=kJ (i:=i) i1
  have b:fJ t i _∉keysL:=λh=>by
   have:=IA _ h
   rw[aC,(xO aT).2]at this
   cases this
  have l:=iV hi aT;have g:=iC dig t i xaa;have a:eV (fJ t i (jl t i))=if 46∈fJ t i (jl t i)then 5 else 4:=by grind[eV,lu,xO]
  unfold TkC mB;simp only;by_cases c:eF dig t i+1<t.length/\bt t (eF dig t i)=46/\dig (bt t (eF dig t i+1))=true
  ·rw[h3 c];refine .inr (.inr (.inr (.inl ⟨rfl,?_⟩)));have e:jl t i=eF dig t (eF dig t i+1):=by unfold jl;rw[h3 c]
   have y:=iV c.1 c.2.2;rw[<-e]at y;rw[a,h3];rw[ur];refine⟨eF dig t i-i,by omega,?_⟩;rw[oB xaa,show i+(eF _ t i-i)=eF dig t i by omega];exact c.2.1
  rw[h2 c];refine .inr (.inr (.inl ⟨rfl,?_⟩));have e:jl t i=eF dig t i:=by unfold jl;rw[h2 c]
  rw[a,h2];rw[ur];rintro⟨k,H,u⟩;rw[bD]at H;rw[oB H]at u;have:=l6 i (i+k) xaa (by rw[<-e];omega);rw[u]at this;revert this;decide
 rw[h2 aT];unfold TkC iD;simp only;by_cases aR:t.getD i 0∈onesL<;>simp_all[onesL,sC]<;>grind
theorem sD(t i):∀af∈jx t i,TkC af:=by
 intro af aR;rw[jx]at aR;split at aR
 ·rename_i h;split at aR
  ·grind[EA]
  obtain c|c:=List.mem_cons.1 aR
  ·subst c;exact EA h
  exact sD t _ _ c
 cases aR
termination_by t.length-i
decreasing_by
 grind[oz,mA]
def Tl(t:List UInt8)(ts:List Tok):List PTk:=ts.map cvT++clT t ts
def hdP(n:Nat):List Tok->PTk
 |[]=>⟨0,[],n⟩
 |k::_=>cvT k
def vL(n:Nat):List Tok->Nat
 |[]=>n
 |k::_=>k.pos
theorem OR(t ts):∃r,Tl t ts=hdP t.length ts::r:=by
 cases ts with
 |nil=>exact⟨_,rfl⟩
 |cons k r=>exact⟨_,rfl⟩
theorem ID(h:k.sym≠[]):Tl t (k::us)=cvT k::Tl t us:=by
 unfold Tl;rw[xN h];rfl
theorem ut(k):(cvT k).at_=k.pos:=by unfold cvT;grind
theorem OS{n ts}:(hdP n ts).at_=vL n ts:=by
 cases ts with
 |nil=>rfl
 |cons k r=>exact ut k
def mh:List (List UInt8):=keysL++sC
theorem B5:∀s∈mh,eV s=3\/eV s=6:=xab
theorem jR:∀s∈mh,s≠[]/\s≠eu/\s≠fx/\s≠iS/\s≠pV:=xab
theorem nE:∀s∈mh,gC s=false:=xab
theorem EB:∀s∈sC,s∉keysL:=xab
theorem IE(aj:TkC k)(ar:x∈mh):(cvT k).text=x↔k.sym=x:=by
 have H:=B5 x ar;have V:=jR x ar;unfold cvT;obtain c|⟨c,d⟩|⟨c,d⟩|⟨c,d⟩|⟨c,d⟩|⟨c,d⟩:=aj<;>grind
theorem vM(aj:TkC k):((cvT k).kind=2↔k.sym=eu)/\((cvT k).kind=4↔k.sym=fx)/\((cvT k).kind=5↔k.sym=iS)/\((cvT k).kind=3↔k.sym∈keysL)/\(cvT k).kind≠0:=by
 unfold cvT;obtain c|⟨c,d⟩|⟨c,d⟩|⟨c,d⟩|⟨c,d⟩|⟨c,d⟩:=aj
 ·simp_all[eu,fx,iS,keysL]
 ·rw[h2 (by rw[c];decide),c];simp only;rw[d];decide
 ·rw[h2 (by rw[c];decide),c];simp only;rw[d];decide
 ·rw[h2 (by rw[c];decide),c];simp only;rw[d];decide
 ·have V:=jR _ (List.mem_append_left _ d);grind[Ew]
 have V:=jR _ (List.mem_append_right _ d);grind[B4,EB]
theorem kU(aj:∀k∈ts,TkC k)(ar:x∈mh):(hdP n ts).text=x↔hdS ts=x:=by
 cases ts with
 |nil=>
  have V:=jR x ar;exact⟨λe=>absurd e.symm V.1,λe=>absurd e.symm V.2.2.2.2⟩
 |cons k r=>exact IE (aj k (List.mem_cons_self ..)) ar
theorem vN(aj:∀k∈ts,TkC k):((hdP n ts).kind=2↔hdS ts=eu)/\((hdP n ts).kind=4↔hdS ts=fx)/\((hdP n ts).kind=5↔hdS ts=iS)/\((hdP n ts).kind=3↔hdS ts∈keysL)/\((hdP n ts).kind=0↔ts=[]):=by
 cases ts with
 |nil=>
  show((0:Int)=2↔pV=eu)/\((0:Int)=4↔pV=fx)/\((0:Int)=5↔pV=iS)/\((0:Int)=3↔pV∈keysL)/\((0:Int)=0↔([]:List Tok)=[]);exact⟨by decide,by decide,by decide,by decide,⟨λ_=>rfl,λ_=>rfl⟩⟩
 |cons k r=>
  obtain⟨z,J,al,bw,bL⟩:=vM (aj k (List.mem_cons_self ..));exact⟨z,J,al,bw,⟨λh=>absurd h bL,λh=>by cases h⟩⟩
theorem kZ(aB:gC s=false)(h:k.sym=s)(r):dT n (k::us) (s::r)=dT n us r:=by
 grind[dT,jA]
theorem lD(aB:gC s=false)(h:hdS ts≠s)(r):dT n ts (s::r)=(vL n ts:Int):=by
 cases ts with
 |nil=>rw[dT,jA aB,h2 xac];rfl
 |cons k us=>
  rw[dT,jA aB];simp only;rw[h2 (λe=>h e.symm)];rfl
theorem lR(h:hdS ts=s)(ai:s≠pV):∃k us,ts=k::us/\k.sym=s:=by
 cases ts with
 |nil=>exact absurd h.symm ai
 |cons k us=>exact⟨k,_,rfl,h⟩
end
section
open Go.RowKit Flt
attribute[local go_sem] dI dG dF
variable{w A:World}{i:Nat}{S:Nat->Prop}{ts us:List Tok}
structure Pe where
 P:Nat
 g:Nat
 cap:Nat
 T:List PTk
 t:List UInt8
 N:Nat
def tkV(k:PTk):Value:=.agg #[.int .i64 k.kind,dJ k.text,.int .i64 (k.at_:Int)]
structure PsI(E:Pe)(W:World)(i:Nat)(ts:List Tok):Prop where
 c0:W.cell? ⟨E.P,0,none⟩=some (.slice (some ⟨E.g,0,none⟩) E.T.length E.cap)
 c1:W.cell? ⟨E.P,1,none⟩=some (.int .i64 (i:Int))
 fz:W.frozen? ⟨E.P,1,none⟩=false
 tk:∀j k,E.T[j]? =some k->W.cell? ⟨E.g,j*3,none⟩=some (.int .i64 k.kind)/\W.cell? ⟨E.g,j*3+1,none⟩=some (dJ k.text)/\W.cell? ⟨E.g,j*3+2,none⟩=some (.int .i64 (k.at_:Int))
 dr:E.T.drop i=Tl E.t ts
 cl:∀k∈ts,TkC k
 len:E.T.length<=4001
 PN:E.P<E.N
 gN:E.g<E.N
 gP:E.g≠E.P
 NW:E.N<=W.heap.size
def Ps(E:Pe)(W:World)(ts:List Tok):Prop:=∃i,PsI E W i ts
abbrev Ch(E:Pe)(w w':World):Prop:=Chg (λb=>b=E.P) w w'
theorem PsI.far{E W}(f:PsI E W i ts)(k:Chg S W A)(aZ:∀b,S b->E.N<=b):PsI E A i ts:=by
 have F:=yaj f.PN f.NW;have aG:=yaj f.gN f.NW;have p:¬S E.P:=λc=>ip (aZ _ c) f.PN
 have a:¬S E.g:=λc=>ip (aZ _ c) f.gN
 refine⟨?_,?_,?_,λj q h=>?_,f.dr,f.cl,f.len,f.PN,f.gN,f.gP,yan f.NW k.size⟩
 ·rw[k.cell F p];exact f.c0
 ·rw[k.cell F p];exact f.c1
 ·rw[k.frozen F p];exact f.fz
 rw[k.cell aG a,k.cell aG a,k.cell aG a];exact f.tk j q h
theorem PsI.keep{E W}(f:PsI E W i ts)(k:Kept 0 0 W A):PsI E A i ts:=f.far (k.chg (S:=λ_=>False)) (λ_ h=>h.elim)
theorem Ps.keep{E W}(f:Ps E W ts)(k:Kept 0 0 W A):Ps E A ts:=by
 obtain⟨i,h⟩:=f;exact⟨i,h.keep k⟩
theorem PsI.at{E W}(f:PsI E W i ts):E.T[i]? =some (hdP E.t.length ts)/\i<E.T.length:=by
 obtain⟨r,ah⟩:=OR E.t ts;have h:=f.dr;rw[ah]at h;have z:(E.T.drop i)[0]? =some (hdP E.t.length ts):=by grind
 grind
theorem PsI.take{E W k}(f:PsI E W i (k::us))(H:k.sym≠[]):PsI E (W.setCell ⟨E.P,1,none⟩ (h0 ((i:Int)+1))) (i+1) us:=by
 have F:=yaj f.PN f.NW;have n1:(⟨E.P,1,none⟩:Addr)≠⟨E.P,0,none⟩:=by simp
 have aI:∀j,(⟨E.P,1,none⟩:Addr)≠⟨E.g,j,none⟩:=λj c=>by
  have:=congrArg Addr.block c
  exact f.gP this.symm
 refine⟨?_,?_,?_,λj q h=>?_,?_,λx ar=>f.cl x (h5 _ ar),f.len,f.PN,f.gN,f.gP,by simpa[go_sem] using f.NW⟩
 ·rw[h6 (h:=n1)];exact f.c0
 ·rw[World.cell?_setCell_same (h:=f.c1)];simp
 ·rw[World.frozen?_setCell];exact f.fz
 ·rw[h6 (h:=aI _),h6 (h:=aI _),h6 (h:=aI _)];exact f.tk j q h
 have h:=f.dr;rw[ID H]at h;rw[<-List.drop_drop,h];rfl
theorem gh(x y aX w):Sem.run prog (Instr.field 84 (.agg #[x,y,aX]) 0) w=.ok x w:=by kernel_rfl
theorem gj(x y aX w):Sem.run prog (Instr.field 84 (.agg #[x,y,aX]) 1) w=.ok y w:=by kernel_rfl
theorem gn(x y aX w):Sem.run prog (Instr.field 84 (.agg #[x,y,aX]) 2) w=.ok aX w:=by kernel_rfl
theorem mkF(fn first cap w):Sem.run prog (Instr.makeFunc fn first cap) w=.ok (.func fn first cap) w:=rfl
abbrev Thr(c p:Int):Ending:=.panicked [{v:=.iface 49 (.agg #[.int .i64 c,.int .i64 p]),recovered:=false}]
theorem j4{w}:Calls prog 52 #[h0 c,h0 p] w λe D=>e=Thr c p/\D=w:=by
 go_enter func52,ntmps52;go_wp2;exact⟨rfl,rfl,rfl⟩
theorem KP{E}(f:PsI E w i ts):Calls prog 48 #[ge E.P] w λe D=>e=.returned (tkV (hdP E.t.length ts))/\Kept 0 0 w D:=by
 obtain⟨z,J⟩:=f.at;obtain⟨bT,bg,a8⟩:=f.tk i _ z;have c0:=f.c0;have c1:=f.c1;have F:E.P<w.heap.size:=yaj f.PN f.NW;have aG:E.g<w.heap.size:=yaj f.gN f.NW;have V:=f.len;clear f z;generalize hdP _ _=k at bT bg a8⊢;obtain⟨P,g,cap,T,t,N⟩:=E;simp only at*;generalize T.length=n at*;obtain⟨ae,i1,aL⟩:=k;simp only at bT bg a8;unfold tkV;simp only;go_enter func48,ntmps48;go_upto_region 1 with fail;go_region
 go_wp2;refine yax (v:=.agg #[h0 ae,dJ i1,h0 aL]) (by simp[results,results48,go_sem]) rfl ?_;exact⟨rfl,(dE 0 0 w _).drew⟩
theorem Ps.far{E W}(f:Ps E W ts)(k:Chg S W A)(aZ:∀b,S b->E.N<=b):Ps E A ts:=by
 obtain⟨i,h⟩:=f;exact⟨i,h.far k aZ⟩
theorem eo(w:World){A:World}(G T)(k:Chg S (w.alloc (.cells G T)) A)(aZ:¬S w.heap.size):(∀o,A.cell? ⟨w.heap.size,o,none⟩=G[o]?)/\(∀o,A.frozen? ⟨w.heap.size,o,none⟩=false)/\w.heap.size<A.heap.size:=by
 have z:w.heap.size<(w.alloc (.cells G T)).heap.size:=by simp
 refine⟨λo=>?_,λo=>?_,yaj z k.size⟩
 ·rw[k.cell z aZ,yat]
 rw[k.frozen z aZ];simp_all
theorem cell_far{o}(h:a.block≠b):(w.setCell a v).cell? ⟨b,o,none⟩=w.cell? ⟨b,o,none⟩:=World.cell?_setCell_far w a ⟨b,o,none⟩ v h
theorem xP{w}(x y aX)(aC:(w.cell? ⟨b,0,none⟩).isSome=true)(z:(w.cell? ⟨b,1,none⟩).isSome=true)(J:(w.cell? ⟨b,2,none⟩).isSome=true)(I:b<w.heap.size):
  (((w.setCell ⟨b,0,none⟩ x).setCell ⟨b,1,none⟩ y).setCell ⟨b,2,none⟩ aX).cell? ⟨b,0,none⟩=some x/\(((w.setCell ⟨b,0,none⟩ x).setCell ⟨b,1,none⟩ y).setCell ⟨b,2,none⟩ aX).cell? ⟨b,1,none⟩=some y/\(((w.setCell ⟨b,0,none⟩ x).setCell ⟨b,1,none⟩ y).setCell ⟨b,2,none⟩ aX).cell? ⟨b,2,none⟩=some aX/\b<(((w.setCell ⟨b,0,none⟩ x).setCell ⟨b,1,none⟩ y).setCell ⟨b,2,none⟩ aX).heap.size/\Chg (λi=>i=b) w (((w.setCell ⟨b,0,none⟩ x).setCell ⟨b,1,none⟩ y).setCell ⟨b,2,none⟩ aX):=by
 have n1:(⟨b,0,none⟩:Addr)≠⟨b,1,none⟩:=by simp
 have aI:(⟨b,0,none⟩:Addr)≠⟨b,2,none⟩:=by simp
 have aE:(⟨b,1,none⟩:Addr)≠⟨b,2,none⟩:=by simp
 refine⟨?_,?_,?_,by simpa[go_sem] using I,((dV (S:=λi=>i=b) w b 0 x rfl).andThen (dV _ b 1 y rfl)).andThen (dV _ b 2 aX rfl)⟩
 ·rw[h6 (h:=aI.symm),h6 (h:=n1.symm),World.cell?_setCell_same' _ _ _ aC]
 ·rw[h6 (h:=aE.symm),World.cell?_setCell_same' _ _ _ (by rw[h6 (h:=n1)];exact z)]
 rw[World.cell?_setCell_same' _ _ _ (by rw[h6 (h:=aE),h6 (h:=aI)];exact J)]
theorem OT{E k}(f:PsI E w i (k::us))(H:k.sym≠[]):Calls prog 79 #[ge E.P] w λe D=>e=.returned (tkV (cvT k))/\Ps E D us/\Ch E w D:=by
 have bu:M (∀W,Kept 0 0 w W->_):=λW ae=>KP (f.keep ae);have bk:=Q f;clear f;go_enter func79,ntmps79;go_upto_region 2 with (go_at_call 48;refine yai (bu.o _ (dE 0 0 w _)) ?_;rintro e Z ⟨rfl,ad⟩;unfold tkV hdP);have ay:M _:=(dE 0 0 w _).trans ad;obtain⟨aB,ai,am⟩:=eo w _ _ (ad.chg (S:=λ_=>False)) (λc=>c);have bK:=aB 0;have L:=aB 1;have bi:=aB 2;have bZ:=ai 0;have aS:=ai 1;have bO:=ai 2;simp only[List.getElem?_toArray,List.getElem?_cons_zero,List.getElem?_cons_succ]at bK L bi;have a0:=bk.o.keep ay.o;have c1:=a0.c1;have a9:=a0.fz;have F:E.P<Z.heap.size:=yaj a0.PN a0.NW;have g:E.P≠w.heap.size:=by grind
 have hi:i<4001:=ip bk.o.at.2 bk.o.len
 have bx:=Q a0;clear a0 aB ai ad;generalize av:w.heap.size=bh at*;go_wp2;have bW:M _:=bx.o.take H;have aE:M (Ch E w (Z.setCell ⟨_,1,_⟩ (h0 (i+1)))):=(ay.o.chg).andThen (dV _ _ _ _ rfl);have t:bh<(Z.setCell ⟨E.P,1,none⟩ (h0 (i+1))).heap.size:=by simpa[go_sem] using am
 have Y:=xP (h0 (cvT k).kind) (dJ (cvT k).text) (h0 ((cvT k).at_:Int)) (by rw[cell_far g,bK];rfl) (by rw[cell_far g,L];rfl) (by rw[cell_far g,bi];rfl) t;generalize Z.setCell ⟨_,1,_⟩ _=ao at bW aE Y;obtain⟨cc,aW,bA,a,aj⟩:=Y;generalize ((ao.setCell ⟨_,0,_⟩ _).setCell ⟨_,1,_⟩ _).setCell ⟨_,2,_⟩ _=a7 at cc aW bA a aj;clear bK L bi bZ aS bO c1 a9 am t;have aL:=(dE 0 0 a7 (.cells #[h0 (cvT k).kind,dJ (cvT k).text,h0 ((cvT k).at_:Int)] 84)).chg (S:=λi=>i=a7.heap.size);rw[<-aL.cell a (Nat.ne_of_lt a)]at cc;rw[<-aL.cell a (Nat.ne_of_lt a)]at aW;rw[<-aL.cell a (Nat.ne_of_lt a)]at bA;have aD:=aj.new aL (λb I e=>ih aj.size);generalize a7.alloc _=aA at cc aW bA aD;refine yax (v:=tkV (cvT k)) (by simp[results,results79,go_sem,tkV,cc,aW,bA]) rfl ?_;exact⟨rfl,⟨_,bW.o.far aD (λb e=>ih bk.o.NW)⟩,aE.o.new aD (λb I e=>by omega)⟩
end
section
open Go.RowKit Flt
variable{A:World}{M' S:Nat->Prop}{v sl:Value}{e:Ex}{vs:List Value}{n m:Nat}
abbrev pu:Value:=.slice none 0 0
def Rw(W:World)(Maa:Nat->Prop)(sl:Value)(vs:List Value):Prop:=W.ownsRow 0 134 1 sl vs.length vs/\∀b,sl.ownBlock=some b->Maa b
inductive Nd (W:World)(Maa:Nat->Prop):Value->Ex->Prop
 |num {k:Tok}:Nd W Maa (.iface 199 (.agg #[.int .i64 (k.pos:Int),pu,.int .i64 (cvT k).kind,dJ (cvT k).text,.int .i64 ((cvT k).at_:Int)])) (.num k)
 |name {k:Tok}:Nd W Maa (.iface 201 (.agg #[.int .i64 (k.pos:Int),pu,.int .i64 (cvT k).kind,dJ (cvT k).text,.int .i64 ((cvT k).at_:Int)])) (.name k)
 |neg {o:Tok}{e:Ex}{sl v:Value}:Rw W Maa sl [v]->Nd W Maa v e->Nd W Maa (.iface 194 (.agg #[.int .i64 (o.pos:Int),sl,.int .i64 6])) (.neg o e)
 |bin {o:Tok}{a b:Ex}{sl v u:Value}:Rw W Maa sl [v,u]->Nd W Maa v a->Nd W Maa u b->Nd W Maa (.iface 192 (.agg #[.int .i64 (o.pos:Int),sl,.int .i64 (lw o.sym)])) (.bin o a b)
 |call {k:Tok}{es:List Ex}{sl:Value}{vs:List Value}:Rw W Maa sl vs->vs.length=es.length->(∀(j:Nat) (v:Value) (e:Ex),vs[j]? =some v->es[j]? =some e->Nd W Maa v e)->Nd W Maa (.iface 203 (.agg #[.int .i64 (k.pos:Int),sl,.int .i64 (cvT k).kind,dJ (cvT k).text,.int .i64 ((cvT k).at_:Int)])) (.call k es)
 |exp {k:Tok}{e:Ex}{sl v:Value}:k.sym=oA->Rw W Maa sl [v]->Nd W Maa v e->Nd W Maa (.iface 194 (.agg #[.int .i64 (k.pos:Int),sl,.int .i64 13])) (.key1 k e)
 |sum {k:Tok}{e:Ex}{sl v:Value}:k.sym=vx->Rw W Maa sl [v]->Nd W Maa v e->Nd W Maa (.iface 206 (.agg #[.int .i64 (k.pos:Int),sl])) (.key1 k e)
 |max {k:Tok}{a b:Ex}{sl v u:Value}:k.sym=l8->Rw W Maa sl [v,u]->Nd W Maa v a->Nd W Maa u b->Nd W Maa (.iface 192 (.agg #[.int .i64 (k.pos:Int),sl,.int .i64 7])) (.key2 k a b)
 |dot {k:Tok}{a b:Ex}{sl v:Value}:k.sym=xD->Rw W Maa sl [v]->Nd W Maa v (.bin ⟨[42],k.pos,k.text⟩ a b)->Nd W Maa (.iface 206 (.agg #[.int .i64 (k.pos:Int),sl])) (.key2 k a b)
 |sel {k:Tok}{a b c:Ex}{sl v u x:Value}:k.sym=qO->Rw W Maa sl [v,u,x]->Nd W Maa v a->Nd W Maa u b->Nd W Maa x c->Nd W Maa (.iface 192 (.agg #[.int .i64 (k.pos:Int),sl,.int .i64 8])) (.key3 k a b c)
 |fill {k n:Tok}{e:Ex}{sl v:Value}:k.sym=mU->Rw W Maa sl [v]->Nd W Maa v e->Nd W Maa (.iface 208 (.agg #[.int .i64 (k.pos:Int),sl,.int .i64 (cvT n).kind,dJ (cvT n).text,.int .i64 ((cvT n).at_:Int)])) (.keyN k e n)
 |pick {k n:Tok}{e:Ex}{sl v:Value}:k.sym=lO->Rw W Maa sl [v]->Nd W Maa v e->Nd W Maa (.iface 210 (.agg #[.int .i64 (k.pos:Int),sl,.int .i64 (cvT n).kind,dJ (cvT n).text,.int .i64 ((cvT n).at_:Int)])) (.keyN k e n)
 |put {k i n:Tok}{e:Ex}{sl v:Value}:Rw W Maa sl [v]->Nd W Maa v e->Nd W Maa (.iface 212 (.agg #[.int .i64 (k.pos:Int),sl,.int .i64 (cvT i).kind,dJ (cvT i).text,.int .i64 ((cvT i).at_:Int),.int .i64 (cvT n).kind,dJ (cvT n).text,.int .i64 ((cvT n).at_:Int)])) (.put k e i n)
 |grad {k x:Tok}{e:Ex}{sl v:Value}:Rw W Maa sl [v]->Nd W Maa v e->Nd W Maa (.iface 213 (.agg #[.int .i64 (k.pos:Int),sl,.int .i64 (cvT x).kind,dJ (cvT x).text,.int .i64 ((cvT x).at_:Int)])) (.grad k e x)
 |jvp {k x:Tok}{e d:Ex}{sl v u:Value}:Rw W Maa sl [v,u]->Nd W Maa v e->Nd W Maa u d->Nd W Maa (.iface 214 (.agg #[.int .i64 (k.pos:Int),sl,.int .i64 (cvT x).kind,dJ (cvT x).text,.int .i64 ((cvT x).at_:Int)])) (.jvp k e x d)
theorem Nd.iface{W Maa}(f:Nd W Maa v e):∃T x,v=.iface T x:=by cases f<;>grind
theorem aO.qbo(h:Zp:=by
 rw[c.block g aG (λh=>aZ g h (f.2 g (i0 K)))];exact bi):Zp:=h
open aO in
theorem Rw.chg{W Maa}(f:Rw W Maa sl vs)(c:Chg S W A)(aZ:∀b,S b->¬Maa b):Rw A Maa sl vs:=by
 refine⟨⟨f.1.1,f.1.2.imp id ?_⟩,f.2⟩;exact qbn
theorem Rw.mono{W Maa}(f:Rw W Maa sl vs)(h:∀b,Maa b->M' b):Rw W M' sl vs:=⟨f.1,λb e=>h b (f.2 b e)⟩
theorem Nd.mono{W Maa}(f:Nd W Maa v e)(h:∀b,Maa b->M' b):Nd W M' v e:=by
 induction f with
 |num=>exact .num
 |name=>exact .name
 |neg r _ O=>exact .neg (r.mono h) O
 |bin r _ _ ay i1=>exact .bin (r.mono h) ay i1
 |call r ab _ O=>exact .call (r.mono h) ab O
 |exp q r _ O=>exact .exp q (r.mono h) O
 |sum q r _ O=>exact .sum q (r.mono h) O
 |max q r _ _ ay i1=>exact .max q (r.mono h) ay i1
 |dot q r _ O=>exact .dot q (r.mono h) O
 |sel q r _ _ _ ay i1 t=>exact .sel q (r.mono h) ay i1 t
 |fill q r _ O=>exact .fill q (r.mono h) O
 |pick q r _ O=>exact .pick q (r.mono h) O
 |put r _ O=>exact .put (r.mono h) O
 |grad r _ O=>exact .grad (r.mono h) O
 |jvp r _ _ ay i1=>exact .jvp (r.mono h) ay i1
theorem Nd.chg{W Maa}(f:Nd W Maa v e)(c:Chg S W A)(aZ:∀b,S b->¬Maa b):Nd A Maa v e:=by
 induction f with
 |num=>exact .num
 |name=>exact .name
 |neg r _ O=>exact .neg (r.chg c aZ) O
 |bin r _ _ ay i1=>exact .bin (r.chg c aZ) ay i1
 |call r ab _ O=>exact .call (r.chg c aZ) ab O
 |exp h r _ O=>exact .exp h (r.chg c aZ) O
 |sum h r _ O=>exact .sum h (r.chg c aZ) O
 |max h r _ _ ay i1=>exact .max h (r.chg c aZ) ay i1
 |dot h r _ O=>exact .dot h (r.chg c aZ) O
 |sel h r _ _ _ ay i1 t=>exact .sel h (r.chg c aZ) ay i1 t
 |fill h r _ O=>exact .fill h (r.chg c aZ) O
 |pick h r _ O=>exact .pick h (r.chg c aZ) O
 |put r _ O=>exact .put (r.chg c aZ) O
 |grad r _ O=>exact .grad (r.chg c aZ) O
 |jvp r _ _ ay i1=>exact .jvp (r.chg c aZ) ay i1
theorem Ps.nw{E W}(f:Ps E W ts):E.P<W.heap.size/\E.N<=W.heap.size:=by
 obtain⟨i,h⟩:=f;exact⟨yaj h.PN h.NW,h.NW⟩
abbrev Fr(n:Nat)(b:Nat):Prop:=n<=b
theorem Nd.ch{E W}(f:Nd W (Fr n) v e)(c:Ch E W A)(h:E.P<n):Nd A (Fr n) v e:=f.chg c (λb e q=>by omega)
theorem Nd.keep{W Maa}(f:Nd W Maa v e)(k:Kept 0 0 W A):Nd A Maa v e:=f.chg (k.chg (S:=λ_=>False)) (λ_ h=>h.elim)
theorem Rw.keep{W Maa}(f:Rw W Maa sl vs)(k:Kept 0 0 W A):Rw A Maa sl vs:=f.chg (k.chg (S:=λ_=>False)) (λ_ h=>h.elim)
theorem Nd.fr{W}(f:Nd W (Fr n) v e)(h:m<=n):Nd W (Fr m) v e:=f.mono (λ_ q=>yan h q)
theorem Rw.fr{W}(f:Rw W (Fr n) sl vs)(h:m<=n):Rw W (Fr m) sl vs:=f.mono (λ_ q=>yan h q)
def Ot(E:Pe)(w:World)(ts:List Tok)(st:List (List UInt8))(G:List Tok->Value->World->Prop)(e:Ending)(w':World):Prop:=
 (∃us ws v,e=.returned v/\M (ts=us++ws)/\M (∀r,dT E.t.length ts (st++r)=dT E.t.length ws r)/\Ps E w' ws/\Ch E w w'/\G us v w')\/
 (∃p:Nat,e=Thr 2 p/\M (∀r,dT E.t.length ts (st++r)=(p:Int))/\Ch E w w')
def GNd(w:World)(l:Nat)(us:List Tok)(v:Value)(w':World):Prop:=∃e,Pr l [e] us/\Nd w' (Fr w.heap.size) v e
def GT(s:List UInt8)(us:List Tok)(v:Value)(_:World):Prop:=∃k,us=[k]/\k.sym=s/\v=tkV (cvT k)
end
section
open Go.RowKit Flt
open Go.ChangeMaps (setBlock heap_setBlock_same heap_setBlock_other)
variable{P:Program}{w:World}{b:Nat}{F:List UInt8->Option Value}{i1 t:TypeId}
open Classical in
noncomputable def lkE:List MapEntry->List UInt8->Option Value
 |[],_=>none
 |e::r,s=>if e.key=dJ s then some e.val else lkE r s
open Classical in
noncomputable def lkI:List MapEntry->List UInt8->Nat->Option (Nat×Value)
 |[],_,_=>none
 |e::r,s,i=>if e.key=dJ s then some (i,e.val)else lkI r s (i+1)
def KsE(es:List MapEntry):Prop:=∀e∈es,∃s,e.key=dJ s
theorem AE(s):∀(es:List MapEntry) (i:Nat),KsE es->Instr.findNow .string (dJ s) es i=some (lkI es s i)
 |[],i,_=>rfl
 |e::r,i,h=>by
  obtain⟨k,H⟩:=h e (List.mem_cons_self ..)
  rw[Instr.findNow,lkI,H]
  by_cases c:dJ k=dJ s
  ·rw[h3 c]
   have c2:=Value.string.inj c
   have:Instr.sameNow .string (dJ s) (dJ k)=some true:=by grind[Instr.sameNow,MapKept.bytes_beq]
   rw[this]
  ·rw[h2 c]
   have c2:¬(⟨_⟩:ByteArray)=⟨_⟩:=λe=>c (congrArg Value.string e.symm)
   have:Instr.sameNow .string (dJ s) (dJ k)=some false:=by grind[Instr.sameNow,MapKept.bytes_beq]
   rw[this]
   exact AE s r _ (λe bl=>h e (h5 _ bl))
theorem sE{s}:∀{es:List MapEntry}{i j:Nat}{v:Value},lkI es s i=some (j,v)->i<=j/\lkE es s=some v/\∃e,es[j-i]? =some e/\e.key=dJ s/\∀ae,∀s',lkE (es.set (j-i) {e with key:=dJ s,val:=ae}) s'=if s'=s then some ae else lkE es s'
 |[],_,_,_,h=>by cases h
 |e::r,i,j,v,h=>by
  rw[lkI]at h
  by_cases c:e.key=dJ s
  ·rw[h3 c]at h
   cases h<;>simp_all[lkE]<;>grind
  ·rw[h2 c]at h
   obtain⟨z,J,bM,al,bw,bL⟩:=sE h
   have K:j-i=(j-(i+1))+1:=xaa
   refine⟨by omega,by rw[lkE,h2 c];exact J,_,by grind,bw,λae s'=>?_⟩
   rw[K,List.set_cons_succ,lkE,lkE,bL]
   grind
theorem sF{s}:∀{es:List MapEntry}{i:Nat},lkI es s i=none->lkE es s=none
 |[],_,_=>rfl
 |e::r,i,h=>by
  rw[lkI]at h
  by_cases c:e.key=dJ s
  ·grind
  ·rw[h2 c]at h
   rw[lkE,h2 c]
   exact sF h
theorem ED{es s s' b}(h:lkE es s=none):lkE (es++[⟨dJ s,v,b⟩]) s'=if s'=s then some v else lkE es s':=by
 induction es<;>simp_all[lkE]<;>grind
def Mp(w:World)(b:Nat)(F:List UInt8->Option Value):Prop:=∃es clock,w.heap[b]? =some (.map es clock)/\KsE es.toList/\∀s,lkE es.toList s=F s
theorem Mp.lt(h:Mp w b F):b<w.heap.size:=by
 obtain⟨es,a,I,_⟩:=h;grind
theorem Mp.same{D}(h:Mp w b F)(e:D.heap[b]? =w.heap[b]?):Mp D b F:=by
 obtain⟨es,a,I,J⟩:=h;exact⟨_,_,e.trans I,J⟩
theorem Mp.new(w:World):Mp (w.alloc (.map #[] 0)) w.heap.size (λ_=>none):=⟨#[],0,(MapKept.heap_alloc w _).1,λe bl=>by simp at bl,λs=>rfl⟩
theorem mi(w)(H:P.underlying i1=some .string)(G s):(Instr.checkKey G 10000 i1 (dJ s)).run P w=.ok () w:=MapKept.run_checkKey H (by trivial) G 9999
theorem kK(w)(H:P.underlying i1=some .string)(s){es}(h:KsE es):(Instr.findKey i1 (dJ s) es).run P w=.ok (lkI es s 0) w:=by
 unfold Instr.findKey;simp[run_underlying H,AE s es 0 h,Result.andThen]
theorem qY(h:Mp w b F){et}(az:P.underlying t=some (.map i1 et))(H:P.underlying i1=some .string){aX}(bR:(zeroValue et).run P w=.ok aX w)(s):
  (Instr.lookup t (.map (some b)) (dJ s) true).run P w=.ok (.tuple #[(F s).getD aX,.bool (F s).isSome]) w:=by
 obtain⟨es,a,I,z,J⟩:=h;cases e:lkI es.toList s 0 with
 |none=>
  have:=(J s).symm.trans (sF e);simp[Instr.lookup,run_underlying az,MapKept.run_getObj_map I,mi w H,kK w H s z,e,bR,Result.andThen,this]
 |some x=>
  obtain⟨j,v⟩:=x;have:=(J s).symm.trans (sE e).2.1;simp[Instr.lookup,run_underlying az,MapKept.run_getObj_map I,mi w H,kK w H s z,e,Result.andThen,this]
theorem MD{et}(az:P.underlying t=some (.map i1 et))(H:P.underlying i1=some .string){aX}(bR:(zeroValue et).run P w=.ok aX w)(s):
  (Instr.lookup t (.map none) (dJ s) true).run P w=.ok (.tuple #[aX,.bool false]) w:=by
 have z:KsE []:=λe bl=>by cases bl
 have:=kK w H s z;simp[Instr.lookup,run_underlying az,mi w H,this,lkI,bR,Result.andThen]
def upF(F:List UInt8->Option Value)(s:List UInt8)(v:Value):List UInt8->Option Value:=λs'=>if s'=s then some v else F s'
theorem sG(h:Mp w b F){et}(az:P.underlying t=some (.map i1 et))(H:P.underlying i1=some .string)(s v):
  ∃o,(Instr.mapUpdate t (.map (some b)) (dJ s) v).run P w=.ok () (setBlock w b o)/\Mp (setBlock w b o) b (upF F s v):=by
 obtain⟨es,a,I,z,J⟩:=h;cases e:lkI es.toList s 0 with
 |none=>
  refine⟨.map (es.push ⟨dJ s,v,a⟩) (a+1),?_,_,_,heap_setBlock_same I _,?_,λs'=>?_⟩
  ·simp[Instr.mapUpdate,run_underlying az,MapKept.run_getObj_map I,mi w H,kK w H s z,e,MapKept.run_setObj_map _ I,Result.andThen,setBlock]
  ·intro x ar;simp only[Array.toList_push,List.mem_append,List.mem_singleton]at ar;obtain ar|rfl:=ar
   ·exact z x ar
   grind
  rw[Array.toList_push,ED (sF e),J];rfl
 |some x=>
  obtain⟨j,bh⟩:=x;obtain⟨_,_,bM,al,bw,bL⟩:=sE e;rw[Nat.sub_zero]at al bL;have aK:es[j]? =some bM:=by grind
  have ai:(Instr.keyThatStays (dJ s) _).run P w=.ok _ w:=MapKept.run_keyThatStays (d:=.string) (by trivial);have c:(es.modify j (λm=>{m with key:=dJ s,val:=v})).toList=es.toList.set j {bM with key:=dJ s,val:=v}:=by grind[ChangeMaps.modify_eq_set]
  refine⟨.map (es.modify j λm=>{m with key:=dJ s,val:=v}) a,?_,_,_,heap_setBlock_same I _,?_,λs'=>?_⟩
  ·simp[Instr.mapUpdate,run_underlying az,MapKept.run_getObj_map I,mi w H,kK w H s z,e,aK,bw,ai,MapKept.run_setObj_map _ I,Result.andThen,setBlock]
  ·intro x ar;rw[c]at ar;obtain ar|rfl:=List.mem_or_eq_of_mem_set ar
   ·exact z x ar
   grind
  rw[c,bL,J];rfl
theorem nG(h:Mp w b F)(o):Chg (λi=>i=b) w (setBlock w b o):=by
 obtain⟨es,a,I,_⟩:=h;exact⟨rfl,rfl,rfl,by simp[setBlock],λi _ hi=>heap_setBlock_other I _ (λe=>hi e)⟩
section
variable{P:Program} (w:World) {bE:Array Oper}{rest:List Oper}{o:Oper}{a:Act}{i1:Exit->Act->World->Prop}
end
end
section
open Go.RowKit Flt Ieee
variable{x:List UInt8}
theorem IF(s a b):∃r,double.nearest s a b=W s r/\r<=9218868437227405312:=by
 unfold Ieee.Format.nearest;by_cases h:a=0
 ·rw[h3 h,nu];grind
 rw[h2 h];simp only[nu,rC];exact⟨_,rfl,Nat.min_le_right _ _⟩
theorem xQ(neg n a):Ieee.Toward.cut .even neg n a<=n+1:=by
 unfold Ieee.Toward.cut;simp only;exact Nat.add_le_add (Nat.div_le_self _ _) (Bool.toNat_le _)
theorem sH(a)(h:a<=10000000000000000):∃r,double.nearest false a 0=W false r/\r<9218868437227405312/\(0<a->0<r):=by
 unfold Ieee.Format.nearest;by_cases aC:a=0
 ·rw[h3 aC,nu];grind
 rw[h2 aC];simp only[nu,rC,pK,rD,GK]
 have I:a.log2<=53:=by
  have:=(Nat.log2_lt aC).2 (show a<2 ^ 54 by omega);omega
 have aR:a<2 ^ (a.log2+1):=Nat.lt_log2_self;generalize a.log2=aO at*;have ab:max ((0:Int)+aO-(52:Nat)) (-1074)=aO-52:=xaa;rw[ab]
 have V:a<<<(0-((aO:Int)-52)).toNat<=10000000000000000:=by
  rw[Nat.shiftLeft_eq];by_cases c:aO<=52
  ·have e:(0-((aO:Int)-52)).toNat=52-aO:=xaa;rw[e];have z:a*2 ^ (52-aO)<=2 ^ (aO+1)*2 ^ (52-aO):=Nat.mul_le_mul_right _ (Nat.le_of_lt aR);rw[<-Nat.pow_add,show aO+1+(52-aO)=53 by omega]at z;omega
  grind
 have H:=xQ false (a<<<(0-((aO:Int)-52)).toNat) ((aO:Int)-52-0).toNat;generalize Ieee.Toward.cut _ _ _ _=ax at*;have hi:((aO:Int)-52- -1074).toNat=aO+1022:=xaa;rw[hi];refine⟨_,rfl,?_,λ_=>?_⟩<;>omega
theorem EE{s r}(h:r<=9218868437227405312):(double.read (W s r)).isNaN=false:=by
 obtain h|rfl:=Nat.lt_or_eq_of_le h
 ·rw[ll h];rfl
 rw[mN];rfl
theorem IG{d}(aC:0<=n)(z:n<=10000000000000000)(J:1<=d)(al:d<=10000000000000000):(f64.read (cop .quo (floatOfInt .f64 n) (floatOfInt .f64 d))).isNaN=false:=by
 obtain⟨r,K,ah,_⟩:=sH n.natAbs xaa;obtain⟨q,a6,an,bT⟩:=sH d.natAbs xaa
 have aS:floatOfInt .f64 n=W false r:=by
  rw[<-K];show double.nearest (decide (n<0)) n.natAbs 0=_;grind
 have bO:floatOfInt .f64 d=W false q:=by
  rw[<-a6];show double.nearest (decide (d<0)) d.natAbs 0=_;grind
 rw[aS,bO];have bH:=Oa (bT xaa);have e:floatBits .quo .f64 _ _=((double.read (W false r)).quotient (double.fractionBits+2) (double.read (W false q))).map double.write:=rfl;unfold cop;rw[e,ll ah,ll an];simp only[Ieee.Datum.quotient,h2 (show ¬Maa q=0 by omega),Option.map_some,Option.getD_some,Ieee.Format.write];obtain⟨aX,ag,bR⟩:=IF (false ^^ false) (2*((Maa r<<<(double.fractionBits+2+(Maa q).log2-(Maa r).log2))/Maa q)+((Maa r<<<(double.fractionBits+2+(Maa q).log2-(Maa r).log2))%Maa q !=0).toNat) (-1074+(E r:Nat)-(-1074+(E q:Nat))-(double.fractionBits+2+(Maa q).log2-(Maa r).log2:Nat)-1);rw[ag];exact EE bR
theorem II(h:iu x):(f64.read (me x)).isNaN=false:=by
 obtain⟨⟨p,aB⟩,aT⟩:=h;obtain⟨z,J,al,bw⟩:=pT aB.digit _ yac (aB.short aT);rw[yao yac]at z J al bw;exact IG z J al bw
theorem oF(h:iu x){f c}(k:RN (fh x) f c):f=me x/\c=0:=by
 obtain⟨z,_⟩|⟨_,J,_⟩|⟨_,_,_,bw,bL⟩:=k
 ·exact absurd h.1 z
 ·have:=h.2;omega
 refine⟨?_,bL⟩;obtain e|⟨_,e⟩:=Da bw<;>grind[II,me]
end
section
open Go.RowKit Flt
theorem lg(w e s):Kept 0 0 w (Lib.bytesWorld w e s):=
 ⟨rfl,rfl,rfl,ix Lib.bytesWorld_size,λk H _=>Lib.bytesWorld_at_old w e s k H⟩
theorem nH(w e t):YS (Lib.bytesWorld w e ⟨t.toArray⟩) (some ⟨w.heap.size,0,none⟩) t.length (fh t) where
 len:=by unfold fh;rw[List.length_map]
 lt:=λx ar=>by
  unfold fh at ar
  obtain⟨b,_,rfl⟩:=List.mem_map.1 ar
  have:=b.toNat_lt
  omega
 at_:=.inr ⟨w.heap.size,0,rfl,ix Lib.bytesWorld_size,λk H=>by
  rw[Nat.zero_add,Lib.bytesWorld_cell w e ⟨t.toArray⟩ k H,nC t k H]
  rfl⟩
theorem pw{x}(h:iu x):x.length<=16:=by
 obtain⟨⟨p,aB⟩,aT⟩:=h;have:=aB.short aT;unfold fh at this;rwa [List.length_map]at this
theorem AF(x):me x<18446744073709551616:=zx
theorem fA(x y bK a9 bj w):Sem.run prog (method 433 199 (.agg #[x,y,bK,a9,bj]) "loop.example/s08086/impl.place") w=.ok (269,.agg #[x,y]) w:=by kernel_rfl
theorem eJ(x y bK a9 bj w):Sem.run prog (method 433 199 (.agg #[x,y,bK,a9,bj]) "loop.example/s08086/impl.operands") w=.ok (268,.agg #[x,y]) w:=by kernel_rfl
theorem fU(x y bK a9 bj w):Sem.run prog (method 433 201 (.agg #[x,y,bK,a9,bj]) "loop.example/s08086/impl.place") w=.ok (269,.agg #[x,y]) w:=by kernel_rfl
theorem eL(x y bK a9 bj w):Sem.run prog (method 433 201 (.agg #[x,y,bK,a9,bj]) "loop.example/s08086/impl.operands") w=.ok (268,.agg #[x,y]) w:=by kernel_rfl
theorem fV(x y bK w):Sem.run prog (method 433 194 (.agg #[x,y,bK]) "loop.example/s08086/impl.place") w=.ok (269,.agg #[x,y]) w:=by kernel_rfl
theorem ez(x y bK w):Sem.run prog (method 433 194 (.agg #[x,y,bK]) "loop.example/s08086/impl.operands") w=.ok (268,.agg #[x,y]) w:=by kernel_rfl
theorem gy(x y w):Sem.run prog (method 433 206 (.agg #[x,y]) "loop.example/s08086/impl.place") w=.ok (269,.agg #[x,y]) w:=by kernel_rfl
theorem eH(x y w):Sem.run prog (method 433 206 (.agg #[x,y]) "loop.example/s08086/impl.operands") w=.ok (268,.agg #[x,y]) w:=by kernel_rfl
theorem fB(x y bK w):Sem.run prog (method 433 192 (.agg #[x,y,bK]) "loop.example/s08086/impl.place") w=.ok (269,.agg #[x,y]) w:=by kernel_rfl
theorem dY(x y bK w):Sem.run prog (method 433 192 (.agg #[x,y,bK]) "loop.example/s08086/impl.operands") w=.ok (268,.agg #[x,y]) w:=by kernel_rfl
theorem fW(x y bK a9 bj w):Sem.run prog (method 433 208 (.agg #[x,y,bK,a9,bj]) "loop.example/s08086/impl.place") w=.ok (269,.agg #[x,y]) w:=by kernel_rfl
theorem eM(x y bK a9 bj w):Sem.run prog (method 433 208 (.agg #[x,y,bK,a9,bj]) "loop.example/s08086/impl.operands") w=.ok (268,.agg #[x,y]) w:=by kernel_rfl
theorem fX(x y bK a9 bj w):Sem.run prog (method 433 210 (.agg #[x,y,bK,a9,bj]) "loop.example/s08086/impl.place") w=.ok (269,.agg #[x,y]) w:=by kernel_rfl
theorem eO(x y bK a9 bj w):Sem.run prog (method 433 210 (.agg #[x,y,bK,a9,bj]) "loop.example/s08086/impl.operands") w=.ok (268,.agg #[x,y]) w:=by kernel_rfl
theorem gz(x y bK a9 bj bI bR bH w):Sem.run prog (method 433 212 (.agg #[x,y,bK,a9,bj,bI,bR,bH]) "loop.example/s08086/impl.place") w=.ok (269,.agg #[x,y]) w:=by kernel_rfl
theorem eQ(x y bK a9 bj bI bR bH w):Sem.run prog (method 433 212 (.agg #[x,y,bK,a9,bj,bI,bR,bH]) "loop.example/s08086/impl.operands") w=.ok (268,.agg #[x,y]) w:=by kernel_rfl
theorem fY(x y bK a9 bj w):Sem.run prog (method 433 213 (.agg #[x,y,bK,a9,bj]) "loop.example/s08086/impl.place") w=.ok (269,.agg #[x,y]) w:=by kernel_rfl
theorem eA(x y bK a9 bj w):Sem.run prog (method 433 213 (.agg #[x,y,bK,a9,bj]) "loop.example/s08086/impl.operands") w=.ok (268,.agg #[x,y]) w:=by kernel_rfl
theorem gB(x y bK a9 bj w):Sem.run prog (method 433 214 (.agg #[x,y,bK,a9,bj]) "loop.example/s08086/impl.place") w=.ok (269,.agg #[x,y]) w:=by kernel_rfl
theorem eI(x y bK a9 bj w):Sem.run prog (method 433 214 (.agg #[x,y,bK,a9,bj]) "loop.example/s08086/impl.operands") w=.ok (268,.agg #[x,y]) w:=by kernel_rfl
theorem fZ(x y bK a9 bj w):Sem.run prog (method 433 203 (.agg #[x,y,bK,a9,bj]) "loop.example/s08086/impl.place") w=.ok (269,.agg #[x,y]) w:=by kernel_rfl
theorem eB(x y bK a9 bj w):Sem.run prog (method 433 203 (.agg #[x,y,bK,a9,bj]) "loop.example/s08086/impl.operands") w=.ok (268,.agg #[x,y]) w:=by kernel_rfl
theorem gU(x w):Sem.run prog (Instr.typeAssert (.iface 199 x) 134 199 true) w=.ok (.tuple #[x,.bool true]) w:=by kernel_rfl
theorem gV(T x w)(h:T≠199):Sem.run prog (Instr.typeAssert (.iface T x) 134 199 true) w=.ok (.tuple #[.agg #[h0 0,.slice none 0 0,h0 0,.string ⟨#[]⟩,h0 0],.bool false]) w:=by
 have bR:(zeroValue 199).run prog w=.ok (.agg #[h0 0,.slice none 0 0,h0 0,.string ⟨#[]⟩,h0 0]) w:=by kernel_rfl
 unfold Instr.typeAssert;simp[run_underlying underlying199,h,bR,Result.andThen]
theorem iF(x w):Sem.run prog (Instr.typeAssert (.iface 201 x) 134 201 true) w=.ok (.tuple #[x,.bool true]) w:=by kernel_rfl
theorem iG(T x w)(h:T≠201):Sem.run prog (Instr.typeAssert (.iface T x) 134 201 true) w=.ok (.tuple #[.agg #[h0 0,.slice none 0 0,h0 0,.string ⟨#[]⟩,h0 0],.bool false]) w:=by
 have bR:(zeroValue 201).run prog w=.ok (.agg #[h0 0,.slice none 0 0,h0 0,.string ⟨#[]⟩,h0 0]) w:=by kernel_rfl
 unfold Instr.typeAssert;simp[run_underlying underlying201,h,bR,Result.andThen]
theorem iH(x w):Sem.run prog (Instr.typeAssert (.iface 194 x) 134 194 true) w=.ok (.tuple #[x,.bool true]) w:=by kernel_rfl
theorem iI(T x w)(h:T≠194):Sem.run prog (Instr.typeAssert (.iface T x) 134 194 true) w=.ok (.tuple #[.agg #[h0 0,.slice none 0 0,h0 0],.bool false]) w:=by
 have bR:(zeroValue 194).run prog w=.ok (.agg #[h0 0,.slice none 0 0,h0 0]) w:=by kernel_rfl
 unfold Instr.typeAssert;simp[run_underlying underlying194,h,bR,Result.andThen]
theorem jb(x w):Sem.run prog (Instr.typeAssert (.iface 206 x) 134 206 true) w=.ok (.tuple #[x,.bool true]) w:=by kernel_rfl
theorem jc(T x w)(h:T≠206):Sem.run prog (Instr.typeAssert (.iface T x) 134 206 true) w=.ok (.tuple #[.agg #[h0 0,.slice none 0 0],.bool false]) w:=by
 have bR:(zeroValue 206).run prog w=.ok (.agg #[h0 0,.slice none 0 0]) w:=by kernel_rfl
 unfold Instr.typeAssert;simp[run_underlying underlying206,h,bR,Result.andThen]
theorem gW(x w):Sem.run prog (Instr.typeAssert (.iface 192 x) 134 192 true) w=.ok (.tuple #[x,.bool true]) w:=by kernel_rfl
theorem gX(T x w)(h:T≠192):Sem.run prog (Instr.typeAssert (.iface T x) 134 192 true) w=.ok (.tuple #[.agg #[h0 0,.slice none 0 0,h0 0],.bool false]) w:=by
 have bR:(zeroValue 192).run prog w=.ok (.agg #[h0 0,.slice none 0 0,h0 0]) w:=by kernel_rfl
 unfold Instr.typeAssert;simp[run_underlying underlying192,h,bR,Result.andThen]
theorem iJ(x w):Sem.run prog (Instr.typeAssert (.iface 208 x) 134 208 true) w=.ok (.tuple #[x,.bool true]) w:=by kernel_rfl
theorem iK(T x w)(h:T≠208):Sem.run prog (Instr.typeAssert (.iface T x) 134 208 true) w=.ok (.tuple #[.agg #[h0 0,.slice none 0 0,h0 0,.string ⟨#[]⟩,h0 0],.bool false]) w:=by
 have bR:(zeroValue 208).run prog w=.ok (.agg #[h0 0,.slice none 0 0,h0 0,.string ⟨#[]⟩,h0 0]) w:=by kernel_rfl
 unfold Instr.typeAssert;simp[run_underlying underlying208,h,bR,Result.andThen]
theorem iL(x w):Sem.run prog (Instr.typeAssert (.iface 210 x) 134 210 true) w=.ok (.tuple #[x,.bool true]) w:=by kernel_rfl
theorem iM(T x w)(h:T≠210):Sem.run prog (Instr.typeAssert (.iface T x) 134 210 true) w=.ok (.tuple #[.agg #[h0 0,.slice none 0 0,h0 0,.string ⟨#[]⟩,h0 0],.bool false]) w:=by
 have bR:(zeroValue 210).run prog w=.ok (.agg #[h0 0,.slice none 0 0,h0 0,.string ⟨#[]⟩,h0 0]) w:=by kernel_rfl
 unfold Instr.typeAssert;simp[run_underlying underlying210,h,bR,Result.andThen]
theorem jd(x w):Sem.run prog (Instr.typeAssert (.iface 212 x) 134 212 true) w=.ok (.tuple #[x,.bool true]) w:=by kernel_rfl
theorem je(T x w)(h:T≠212):Sem.run prog (Instr.typeAssert (.iface T x) 134 212 true) w=.ok (.tuple #[.agg #[h0 0,.slice none 0 0,h0 0,.string ⟨#[]⟩,h0 0,h0 0,.string ⟨#[]⟩,h0 0],.bool false]) w:=by
 have bR:(zeroValue 212).run prog w=.ok (.agg #[h0 0,.slice none 0 0,h0 0,.string ⟨#[]⟩,h0 0,h0 0,.string ⟨#[]⟩,h0 0]) w:=by kernel_rfl
 unfold Instr.typeAssert;simp[run_underlying underlying212,h,bR,Result.andThen]
theorem gD(x w):Sem.run prog (Instr.typeAssert (.iface 213 x) 134 213 true) w=.ok (.tuple #[x,.bool true]) w:=by kernel_rfl
theorem gq(T x w)(h:T≠213):Sem.run prog (Instr.typeAssert (.iface T x) 134 213 true) w=.ok (.tuple #[.agg #[h0 0,.slice none 0 0,h0 0,.string ⟨#[]⟩,h0 0],.bool false]) w:=by
 have bR:(zeroValue 213).run prog w=.ok (.agg #[h0 0,.slice none 0 0,h0 0,.string ⟨#[]⟩,h0 0]) w:=by kernel_rfl
 unfold Instr.typeAssert;simp[run_underlying underlying213,h,bR,Result.andThen]
theorem gY(x w):Sem.run prog (Instr.typeAssert (.iface 214 x) 134 214 true) w=.ok (.tuple #[x,.bool true]) w:=by kernel_rfl
theorem gF(T x w)(h:T≠214):Sem.run prog (Instr.typeAssert (.iface T x) 134 214 true) w=.ok (.tuple #[.agg #[h0 0,.slice none 0 0,h0 0,.string ⟨#[]⟩,h0 0],.bool false]) w:=by
 have bR:(zeroValue 214).run prog w=.ok (.agg #[h0 0,.slice none 0 0,h0 0,.string ⟨#[]⟩,h0 0]) w:=by kernel_rfl
 unfold Instr.typeAssert;simp[run_underlying underlying214,h,bR,Result.andThen]
theorem gu(x w):Sem.run prog (Instr.typeAssert (.iface 203 x) 134 203 true) w=.ok (.tuple #[x,.bool true]) w:=by kernel_rfl
theorem fS(T x w)(h:T≠203):Sem.run prog (Instr.typeAssert (.iface T x) 134 203 true) w=.ok (.tuple #[.agg #[h0 0,.slice none 0 0,h0 0,.string ⟨#[]⟩,h0 0],.bool false]) w:=by
 have bR:(zeroValue 203).run prog w=.ok (.agg #[h0 0,.slice none 0 0,h0 0,.string ⟨#[]⟩,h0 0]) w:=by kernel_rfl
 unfold Instr.typeAssert;simp[run_underlying underlying203,h,bR,Result.andThen]
theorem lE{W}:Calls prog 269 #[.agg #[h0 p,.slice a n c]] W λe A=>e=.returned (h0 p)/\Kept 0 0 W A:=by
 have ay:M _:=dE 0 0 W (.cells #[h0 p,.slice a n c] 190);go_enter func269,ntmps269;go_wp2;go_ret;exact⟨rfl,ay.o⟩
theorem nJ{W}:Calls prog 268 #[.agg #[h0 p,.slice a n c]] W λe A=>e=.returned (.slice a n c)/\Kept 0 0 W A:=by
 have ay:M _:=dE 0 0 W (.cells #[h0 p,.slice a n c] 190);go_enter func268,ntmps268;go_wp2;go_ret;exact⟨rfl,ay.o⟩
theorem mj(w x y aX):∀aq,Kept 0 0 (w.alloc (.cells #[x,y,aX] 232)) aq->Kept 0 0 w aq/\aq.cell? ⟨w.heap.size,0,none⟩=some x/\aq.cell? ⟨w.heap.size,1,none⟩=some y/\aq.cell? ⟨w.heap.size,2,none⟩=some aX/\w.heap.size<aq.heap.size:=λaq k=>by
 obtain⟨L,_,U⟩:=eo w #[x,y,aX] 232 (ib).chg (S:=λ_=>False) (λc=>c)
 exact⟨(dE 0 0 w _).trans k,dZ k U (L 0),dZ k U (L 1),dZ k U (L 2),yaj U k.size⟩
