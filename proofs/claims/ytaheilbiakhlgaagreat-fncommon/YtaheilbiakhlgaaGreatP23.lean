import Derived.Test.YtaheilbiakhlgaaGreatP20
import Derived.Test.YtaheilbiakhlgaaGreatP22
namespace Go.Proofs.Z
variable{Zp:Prop}
open Tryz Go.RowKit Flt
set_option maxRecDepth 1000000
set_option maxHeartbeats 0
section
variable{ts:List Tok}
def kIn:List UInt8:=[105,110]
def JI:List UInt8:=[108,101,116]
def JJ:List UInt8:=[111,117,116]
def FY:List UInt8:=[100,101,102]
def JK:List UInt8:=[114,101,112,101,97,116]
theorem JL{n es}(h:Pr n es ts):∀t∈ts,t.sym≠[59]:=by
 induction h<;>(try simp only[List.forall_mem_append,List.forall_mem_cons])<;>grind[iE,kZ,gU,yx,Fo,Au,Jl,yy,uO,qy,CS,BA,Jm]
inductive Sm where
 |inS (n l:Tok)
 |letS (n:Tok) (e:Ex)
 |rep (i n:Tok) (e:Ex)
 |defS (n:Tok) (ps:List Tok) (e:Ex)
 |outS (k:Tok) (e:Ex)
inductive PPm:List Tok->List Tok->Prop
 |one {t:Tok}:t.sym=gU->PPm [t] [t]
 |more {ps ts:List Tok}{c t:Tok}:PPm ps ts->c.sym=[44]->t.sym=gU->PPm (ps++[t]) (ts++[c,t])
theorem FZ{aT}(h:PPm aT ts):∀t∈ts,t.sym=gU\/t.sym=[44]:=by
 induction h<;>grind
inductive PSm:Sm->List Tok->Prop
 |inS {k n c l:Tok}:k.sym=kIn->n.sym=gU->c.sym=[58]->l.sym=iE->PSm (.inS n l) [k,n,c,l]
 |letS {k n q:Tok}{e:Ex}{ts:List Tok}:k.sym=JI->n.sym=gU->q.sym=[61]->Pr 2 [e] ts->PSm (.letS n e) (k::n::q::ts)
 |rep {k i n q:Tok}{e:Ex}{ts:List Tok}:k.sym=JK->i.sym=iE->n.sym=gU->q.sym=[61]->Pr 2 [e] ts->PSm (.rep i n e) (k::i::n::q::ts)
 |def0 {k n l r q:Tok}{e:Ex}{ts:List Tok}:k.sym=FY->n.sym=gU->l.sym=[40]->r.sym=[41]->q.sym=[61]->Pr 2 [e] ts->PSm (.defS n [] e) (k::n::l::r::q::ts)
 |defS {k n l r q:Tok}{e:Ex}{ps us ts:List Tok}:k.sym=FY->n.sym=gU->l.sym=[40]->PPm ps us->r.sym=[41]->q.sym=[61]->Pr 2 [e] ts->PSm (.defS n ps e) (k::n::l::(us++r::q::ts))
 |outS {k:Tok}{e:Ex}{ts:List Tok}:k.sym=JJ->Pr 2 [e] ts->PSm (.outS k e) (k::ts)
theorem JM{s}(h:PSm s ts):∀t∈ts,t.sym≠[59]:=by
 cases h<;>grind[JL,FZ,kIn,JI,JK,FY,JJ,iE,gU]
inductive PGm:List Sm->List Tok->Prop
 |nil:PGm [] []
 |cons {s:Sm}{ss:List Sm}{ts us:List Tok}{c:Tok}:PSm s ts->c.sym=[59]->PGm ss us->PGm (s::ss) (ts++c::us)
theorem uV{n}:∀(k:Nat) (ts:List Tok),ts.length<=k->∀r aT h,PPm aT h->fS n ts (gN::r)=-1->∃j us Y,ts=us++Y/\PPm j (h++us)/\fS n Y r=-1
 |k,ts,O,r,aT,h,aF,X=>by
  rw[iN xab]at X
  by_cases c:hdS ts=[44]
  ·rw[show gG gN (hdS ts)=[[44],[110,97,109,101],gN] by rw[c];rfl]at X
   obtain⟨o,us,rfl,ax,X⟩:=eV xab X
   obtain⟨t,f,rfl,ht,X⟩:=eV xab X
   match k,O with
   |0,O=>simp at O
   |k+1,O=>
    obtain⟨j,p,Y,rfl,h3,X⟩:=uV k f (by simp at O;omega) r (aT++[t]) (h++[o,t]) (.more aF ax ht) X
    exact⟨j,o::t::p,Y,by simp,by simpa using h3,X⟩
  ·rw[show gG gN (hdS ts)=[] by
    unfold gG
    rw[hG xab,hG xab,hI rfl,hG c]]at X
   exact⟨aT,[],ts,rfl,by simpa using aF,X⟩
theorem yP{n}:∀(k:Nat) (ts:List Tok),ts.length<=k->fS n ts [iH]=-1->∃aa,PGm aa ts
 |k,ts,O,X=>by
  rw[iN xab]at X
  unfold gG at X
  rw[hI rfl]at X
  generalize hdS ts=s at X
  have g:∀{us:List Tok},us.length<ts.length->fS n us [iH]=-1->∃aa,PGm aa us:=λ{us} ah h=>by
   match k,O with
   |0,O=>omega
   |k+1,O=>exact yP k us xaa h
  by_cases bZ:s=[105,110]
  ·rw[hI bZ]at X
   obtain⟨am,us,rfl,B,X⟩:=eV xab X
   obtain⟨an,us,rfl,U,X⟩:=eV xab X
   obtain⟨aJ,us,rfl,h3,X⟩:=eV xab X
   obtain⟨b7,us,rfl,a6,X⟩:=eV xab X
   obtain⟨bW,us,rfl,bK,X⟩:=eV xab X
   obtain⟨aa,aQ⟩:=g yaf X
   exact⟨_,.cons (ts:=[am,an,aJ,b7]) (.inS B U h3 a6) bK aQ⟩
  rw[hG bZ]at X
  by_cases bG:s=[108,101,116]
  ·rw[hI bG]at X
   obtain⟨am,us,rfl,B,X⟩:=eV xab X
   obtain⟨an,us,rfl,U,X⟩:=eV xab X
   obtain⟨aJ,us,rfl,h3,X⟩:=eV xab X
   obtain⟨e,us,Y,rfl,a6,X⟩:=qD X
   obtain⟨bW,i,rfl,bK,X⟩:=eV xab X
   obtain⟨aa,aQ⟩:=g yaf X
   exact⟨_,.cons (ts:=am::an::aJ::us) (.letS B U h3 a6) bK aQ⟩
  rw[hG bG]at X
  by_cases aC:s=[114,101,112,101,97,116]
  ·rw[hI aC]at X
   obtain⟨am,us,rfl,B,X⟩:=eV xab X
   obtain⟨an,us,rfl,U,X⟩:=eV xab X
   obtain⟨aJ,us,rfl,h3,X⟩:=eV xab X
   obtain⟨b7,us,rfl,a6,X⟩:=eV xab X
   obtain⟨e,us,Y,rfl,bm,X⟩:=qD X
   obtain⟨bW,i,rfl,bK,X⟩:=eV xab X
   obtain⟨aa,aQ⟩:=g yaf X
   exact⟨_,.cons (ts:=am::an::aJ::b7::us) (.rep B U h3 a6 bm) bK aQ⟩
  rw[hG aC]at X
  by_cases ay:s=[100,101,102]
  ·rw[hI ay]at X
   obtain⟨am,us,rfl,B,X⟩:=eV xab X
   obtain⟨an,us,rfl,U,X⟩:=eV xab X
   obtain⟨aJ,us,rfl,h3,X⟩:=eV xab X
   have X:fS n us (lz::[41]::[61]::gV::[59]::[iH])=-1:=X
   rw[iN xab]at X
   by_cases c:hdS us=[110,97,109,101]
   ·rw[show gG lz (hdS us)=[[110,97,109,101],gN] by rw[c];rfl]at X
    obtain⟨t,f,rfl,ht,X⟩:=eV xab X
    obtain⟨aT,p,Y,rfl,aF,X⟩:=uV f.length f yad _ [t] [t] (.one ht) X
    obtain⟨cb,us,rfl,bm,X⟩:=eV xab X
    obtain⟨bT,us,rfl,bP,X⟩:=eV xab X
    obtain⟨e,us,Y,rfl,R,X⟩:=qD X
    obtain⟨bW,i,rfl,bK,X⟩:=eV xab X
    obtain⟨aa,aQ⟩:=g yaf X
    have:=PGm.cons (ts:=am::an::aJ::(t::p++cb::bT::us)) (.defS B U h3 aF bm bP R) bK aQ
    exact⟨_,by simpa using this⟩
   ·rw[show gG lz (hdS us)=[] by
     unfold gG
     rw[hG xab,hI rfl,hG c]]at X
    obtain⟨cb,us,rfl,bm,X⟩:=eV xab X
    obtain⟨bT,us,rfl,bP,X⟩:=eV xab X
    obtain⟨e,us,Y,rfl,R,X⟩:=qD X
    obtain⟨bW,i,rfl,bK,X⟩:=eV xab X
    obtain⟨aa,aQ⟩:=g yaf X
    exact⟨_,.cons (ts:=am::an::aJ::cb::bT::us) (.def0 B U h3 bm bP R) bK aQ⟩
  rw[hG ay]at X
  by_cases bi:s=[111,117,116]
  ·rw[hI bi]at X
   obtain⟨am,us,rfl,B,X⟩:=eV xab X
   obtain⟨e,us,Y,rfl,a6,X⟩:=qD X
   obtain⟨bW,i,rfl,bK,X⟩:=eV xab X
   obtain⟨aa,aQ⟩:=g yaf X
   exact⟨_,.cons (ts:=am::us) (.outS B a6) bK aQ⟩
  rw[hG bi]at X
  cases ts with
  |nil=>exact⟨_,.nil⟩
  |cons t ts=>
   rw[List.nil_append,fS,nD]at X
   simp only at X
   omega
theorem JN{n}(h:fS n ts [iH]=-1):∃aa,PGm aa ts:=yP ts.length ts yad h
inductive Bdg where
 |val (nm:List UInt8) (v:Nat)
 |fn (nm:List UInt8) (ps:List Tok) (e:Ex)
def Bdg.nm:Bdg->List UInt8
 |.val n _=>n
 |.fn n _ _=>n
structure LSt where
 ins:List Int
 vs:List Vl
 outs:List Int
 names:List Bdg
 calls:Nat
abbrev F0:=Int×Nat
abbrev Rs(α:Type):=Except F0 α
def gh(st:LSt)(v:Vl)(p:Nat):Rs (LSt×Nat):=if kM (st.vs++[v])=true then .error (5,p)else .ok ({st with vs:=st.vs++[v]},st.vs.length)
def fe(st:LSt)(i:Nat):Int:=(st.vs.getD i hK).len
def iX(ns:List Bdg)(s:List UInt8):Option Bdg:=ns.find? λb=>b.nm==s
def AJ(loc:List (List UInt8×Nat))(s:List UInt8):Option Nat:=(loc.find? λb=>b.1==s).map (·.2)
def fJ(st:LSt)(loc:List (List UInt8×Nat))(t:Tok):Rs Nat:=
 match AJ loc t.text with
 |some v=>.ok v
 |none=>match iX st.names t.text with
  |some (.val _ v)=>.ok v
  |_=>.error (3,t.pos)
def pL(st:LSt)(xs:List Nat):Int:=xs.foldl (λn i=>if n<fe st i then fe st i else n) 1
def iL(n:Int)(p:Nat):LSt->List Nat->Rs (LSt×List Nat)
 |st,[]=>.ok (st,[])
 |st,i::r=>if fe st i<n then
   match gh st (eK 10 n (i:Int) 0 0) p with
   |.error f=>.error f
   |.ok (st1,j)=>match iL n p st1 r with
    |.error f=>.error f
    |.ok (st2,js)=>.ok (st2,j::js)
  else match iL n p st r with
   |.error f=>.error f
   |.ok (st2,js)=>.ok (st2,i::js)
def kj(st:LSt)(xs:List Nat)(p:Nat):Rs (LSt×List Nat):=if xs.all (λi=>fe st i==pL st xs||fe st i==1)=true then iL (pL st xs) p st xs else .error (4,p)
def iC(t:List UInt8):Int:=t.foldl (λv b=>v*10+((b.toNat:Int)-48)) 0
def oz(t:List UInt8):Nat:=cop .quo (floatOfInt .f64 (nds (il t)).1) (floatOfInt .f64 (nds (il t)).2.1)
def qF(s:List UInt8):Int:=if s=[43]then 2 else if s=[45]then 3 else if s=[42]then 4 else 5
def iQ(st:LSt)(m:List Vl×Int)(p:Nat):Rs (LSt×Nat):=if kM m.1=true then .error (5,p)else .ok ({st with vs:=m.1},m.2.toNat)
def mo(st:LSt)(k:Tok)(a:Nat)(n:Tok):Rs (LSt×Nat):=
 if k.sym=qy then
  if fe st a<=iC n.text then .error (4,n.pos)else gh st (eK 11 1 (a:Int) 0 (iC n.text)) k.pos
 else if fe st a≠1 then .error (4,k.pos)
 else if iC n.text<1\/1000<iC n.text then .error (4,n.pos)else gh st (eK 10 (iC n.text) (a:Int) 0 0) k.pos
def mq(st:LSt)(k:Tok)(a:Nat)(i n:Tok):Rs (LSt×Nat):=
 if fe st a≠1 then .error (4,k.pos)
 else if iC n.text<1\/1000<iC n.text then .error (4,n.pos)
 else if iC n.text<=iC i.text then .error (4,i.pos)else gh st (eK 12 (iC n.text) (a:Int) 0 (iC i.text)) k.pos
def qG(st:LSt)(o:Tok)(a b:Nat):Rs (LSt×Nat):=
 match kj st [a,b] o.pos with
 |.error f=>.error f
 |.ok (s2,f)=>gh s2 (eK (qF o.sym) (fe s2 (f.getD 0 0)) (f.getD 0 0:Nat) (f.getD 1 0:Nat) 0) o.pos
def qH(st:LSt)(k:Tok)(a b:Nat):Rs (LSt×Nat):=
 match kj st [a,b] k.pos with
 |.error f=>.error f
 |.ok (s2,f)=>
  if k.sym=Au then gh s2 (eK 7 (fe s2 (f.getD 0 0)) (f.getD 0 0:Nat) (f.getD 1 0:Nat) 0) k.pos
  else match gh s2 (eK 4 (fe s2 (f.getD 0 0)) (f.getD 0 0:Nat) (f.getD 1 0:Nat) 0) k.pos with
   |.error f=>.error f
   |.ok (s3,p)=>gh s3 (eK 9 1 (p:Int) 0 0) k.pos
def xq(st:LSt)(k:Tok)(a b c:Nat):Rs (LSt×Nat):=
 match kj st [a,b,c] k.pos with
 |.error f=>.error f
 |.ok (s2,f)=>gh s2 (eK 8 (fe s2 (f.getD 0 0)) (f.getD 0 0:Nat) (f.getD 1 0:Nat) (f.getD 2 0:Nat)) k.pos
def pA(st:LSt)(k:Tok)(a x:Nat):Rs (LSt×Nat):=if fe st a≠1 then .error (4,k.pos)else iQ st (grM st.vs a x) k.pos
def pM(st:LSt)(k:Tok)(a x d:Nat):Rs (LSt×Nat):=
 if fe st d=1/\1<fe st x then
  match gh st (eK 10 (fe st x) (d:Int) 0 0) k.pos with
  |.error f=>.error f
  |.ok (s2,d2)=>iQ s2 (jZ s2.vs a x d2) k.pos
 else if fe st d≠fe st x then .error (4,k.pos)else iQ st (jZ st.vs a x d) k.pos
abbrev Loc:=List (List UInt8×Nat)
def jH(r:Option (Rs (LSt×Nat)))(f:LSt->Nat->Option (Rs (LSt×Nat))):Option (Rs (LSt×Nat)):=
 match r with
 |none=>none
 |some (.error e)=>some (.error e)
 |some (.ok (st,a))=>f st a
def gz(ev:LSt->Ex->Option (Rs (LSt×Nat))):LSt->List Ex->Option (Rs (LSt×List Nat))
 |st,[]=>some (.ok (st,[]))
 |st,e::r=>match ev st e with
  |none=>none
  |some (.error f)=>some (.error f)
  |some (.ok (s1,a))=>match gz ev s1 r with
   |none=>none
   |some (.error f)=>some (.error f)
   |some (.ok (s2,xs))=>some (.ok (s2,a::xs))
def eP:Nat->LSt->Loc->Ex->Option (Rs (LSt×Nat))
 |0,_,_,_=>none
 |_+1,st,_,.num t=>some (gh st ⟨1,1,0,0,0,oz t.text⟩ t.pos)
 |_+1,st,loc,.name t=>some (match fJ st loc t with|.error f=>.error f|.ok v=>.ok (st,v))
 |f+1,st,loc,.neg o e=>jH (eP f st loc e) λs a=>some (gh s (eK 6 (fe s a) (a:Int) 0 0) o.pos)
 |f+1,st,loc,.bin o a b=>jH (eP f st loc a) λs1 x=>jH (eP f s1 loc b) λs2 y=>some (qG s2 o x y)
 |f+1,st,loc,.call t es=>
  match iX st.names t.text with
  |some (.fn _ ps body)=>
   if ps.length=es.length then
    match gz (λs e=>eP f s loc e) st es with
    |none=>none
    |some (.error e)=>some (.error e)
    |some (.ok (s1,xs))=>if 500<=s1.calls then some (.error (5,t.pos))else eP f {s1 with calls:=s1.calls+1} ((ps.map (·.text)).zip xs) body
   else some (.error (3,t.pos))
  |_=>some (.error (3,t.pos))
 |f+1,st,loc,.key1 k e=>jH (eP f st loc e) λs a=>some (if k.sym=yx then gh s (eK 13 (fe s a) (a:Int) 0 0) k.pos else gh s (eK 9 1 (a:Int) 0 0) k.pos)
 |f+1,st,loc,.key2 k a b=>jH (eP f st loc a) λs1 x=>jH (eP f s1 loc b) λs2 y=>some (qH s2 k x y)
 |f+1,st,loc,.key3 k a b c=>jH (eP f st loc a) λs1 x=>jH (eP f s1 loc b) λs2 y=>jH (eP f s2 loc c) λs3 z=>some (xq s3 k x y z)
 |f+1,st,loc,.keyN k e n=>jH (eP f st loc e) λs a=>some (mo s k a n)
 |f+1,st,loc,.put k e i n=>jH (eP f st loc e) λs a=>some (mq s k a i n)
 |f+1,st,loc,.grad k e x=>match fJ st loc x with
  |.error q=>some (.error q)
  |.ok v=>jH (eP f st loc e) λs a=>some (pA s k a v)
 |f+1,st,loc,.jvp k e x d=>match fJ st loc x with
  |.error q=>some (.error q)
  |.ok v=>jH (eP f st loc e) λs1 a=>jH (eP f s1 loc d) λs2 y=>some (pM s2 k a v y)
end
section
attribute[local go_sem] eF eE eD
variable{w W' aA:World}{x y:List UInt8}{M':Nat->Prop}{P I g off cap:Nat}{v u1 u2 u3 u4:Value}{a:Option Addr}{ts:List Tok}{vs:List Vl}{st:LSt}
structure Mv(M:Nat->Prop)(W:World)(M':Nat->Prop)(W':World):Prop where
 chg:Chg M W W'
 new:∀b,M' b->M b\/W.heap.size<=b
theorem Mv.refl(M W):Mv M W M W:=⟨(Kept.refl 0 0 W).chg,λ_ h=>.inl h⟩
theorem Mv.keep{M W ay W2}(h:Mv M W M' ay)(k:Kept 0 0 ay W2):Mv M W M' W2:=
 ⟨⟨k.os.trans h.chg.os,k.tape.trans h.chg.tape,k.output.trans h.chg.output,yan h.chg.size k.size,λi hi hn=>(k.block i (yaj hi h.chg.size) xaa).trans (h.chg.block i hi hn)⟩,h.new⟩
theorem Mv.of{M W}(k:Kept 0 0 W W'):Mv M W M W':=(Mv.refl M W).keep k
theorem Mv.trans{M e W}(h:Mv M W M' W')(k:Mv M' W' e aA):Mv M W e aA where
 chg:=⟨k.chg.os.trans h.chg.os,k.chg.tape.trans h.chg.tape,k.chg.output.trans h.chg.output,yan h.chg.size k.chg.size,λi hi hn=>(k.chg.block i (yaj hi h.chg.size) (λc=>(h.new i c).elim hn (λc=>by omega))).trans (h.chg.block i hi hn)⟩
 new:=λb hb=>(k.new b hb).elim (h.new b) (λc=>.inr (yan h.chg.size c))
theorem Mv.bad{M W}(h:Mv M W M' W')(k:Chg M' W' aA):Chg M W aA:=
 ⟨k.os.trans h.chg.os,k.tape.trans h.chg.tape,k.output.trans h.chg.output,yan h.chg.size k.size,λi hi hn=>(k.block i (yaj hi h.chg.size) (λc=>(h.new i c).elim hn (λc=>by omega))).trans (h.chg.block i hi hn)⟩
structure TkR(M:Nat->Prop)(W:World)(a:Option Addr)(n:Nat)(ts:List Tok):Prop where
 len:ts.length=n
 at_:0<n->∃g off,a=some ⟨g,off,none⟩/\¬M g/\TkA W g off n ts
theorem TkA.keepC{J S n}(h:TkA w g off n ts)(k:Chg S w J)(G:¬S g):TkA J g off n ts:=
 ⟨h.len,yaj h.lt k.size,λj hj=>(k.cell (p:=⟨g,off+j*3,none⟩) h.lt G).trans (h.c0 j hj),λj hj=>(k.cell (p:=⟨g,off+j*3+1,none⟩) h.lt G).trans (h.c1 j hj),λj hj=>(k.cell (p:=⟨g,off+j*3+2,none⟩) h.lt G).trans (h.c2 j hj)⟩
theorem TkR.mv{M W n}(h:TkR M W a n ts)(k:Mv M W M' W'):TkR M' W' a n ts:=
 ⟨h.len,λhn=>by
  obtain⟨g,off,e,B,U⟩:=h.at_ hn
  exact⟨g,_,e,λc=>(k.new g c).elim B (λc=>hO U.lt),U.keepC k.chg B⟩⟩
theorem tD(ts:List Tok)(i j k)(O:k<j-i):((ts.drop i).take (j-i)).getD k hL=ts.getD (i+k) hL:=by
 simp_all
theorem TkA.cut{n}(h:TkA w g off n ts){i j}(hj:j<=n):TkA w g (off+i*3) (j-i) ((ts.drop i).take (j-i)):=by
 have ah:=h.len;refine⟨by grind,h.lt,λk O=>?_,λk O=>?_,λk O=>?_⟩
 ·rw[tD _ i j k O,show off+i*3+k*3=off+(i+k)*3 by omega];exact h.c0 _ xaa
 ·rw[tD _ i j k O,show off+i*3+k*3=off+(i+k)*3 by omega];exact h.c1 _ xaa
 rw[tD _ i j k O,show off+i*3+k*3=off+(i+k)*3 by omega];exact h.c2 _ xaa
structure Dgs(l:List UInt8):Prop where
 len:l.length<=15
 d:∀k,k<l.length->48<=bt l k/\bt l k<=57
def kN(x:List UInt8):Prop:=wL (il x)/\(il x).countP dig<=15
structure TsOK(ts:List Tok):Prop where
 n5:ts.length<=5000
 ti:∀t∈ts,t.sym=iE->Dgs t.text
 tn:∀t∈ts,(t.sym=iE\/t.sym=kZ)->kN t.text
structure Bc where
 nm:List UInt8
 fn:Bool
 val:Int
 pa:Option Addr
 pn:Nat
 pc:Nat
 ba:Option Addr
 bn:Nat
 bc:Nat
def hM:Bc:=⟨[],false,0,none,0,0,none,0,0⟩
def Bc.cells(b:Bc):List Value:=[eO b.nm,.bool b.fn,.int .i64 b.val,.slice b.pa b.pn b.pc,.slice b.ba b.bn b.bc]
def bcF:List Bc->List Value
 |[]=>[]
 |b::r=>b.cells++bcF r
theorem xr(a b):bcF (a++b)=bcF a++bcF b:=by
 induction a<;>grind[bcF]
theorem xu(b):bcF [b]=b.cells:=by simp[bcF]
theorem F1:∀(a:List Bc) (k j:Nat),k<a.length->j<5->(bcF a)[k*5+j]? =(a.getD k hM).cells[j]?
 |x::r,0,j,_,hj=>by
  grind[bcF,Bc.cells]
 |x::r,k+1,j,O,hj=>by
  have ap:x.cells.length=5:=rfl
  rw[bcF,yar xaa,ap,show(k+1)*5+j-5=k*5+j by omega]
  exact F1 r k j (by grind) hj
def BcOK(M:Nat->Prop)(W:World)(b:Bc):Bdg->Prop
 |.val nm v=>b.nm=nm/\b.fn=false/\b.val=(v:Int)
 |.fn nm ps e=>b.nm=nm/\b.fn=true/\TkR M W b.pa b.pn ps/\∃ts,Pr 2 [e] ts/\(TsOK ts/\b.bn<=b.bc)/\TkR M W b.ba b.bn ts
theorem BcOK.mv{M W b d}(h:BcOK M W b d)(k:Mv M W M' W'):BcOK M' W' b d:=by
 cases d with
 |val bJ v=>exact h
 |fn bJ aT e=>
  obtain⟨B,U,h3,ts,a6,bK,bm⟩:=h;exact⟨B,U,h3.mv k,_,a6,bK,bm.mv k⟩
def Mst(P:Nat)(u1 u2 u3 u4:Value)(b:Nat):Prop:=b=P\/u1.ownBlock=some b\/u2.ownBlock=some b\/u3.ownBlock=some b\/u4.ownBlock=some b
structure WS(W:World)(P B:Nat)(u1 u2 u3 u4:Value)(bs:List Bc)(st:LSt):Prop where
 lt:P<W.heap.size
 fr:∀o,W.frozen? ⟨P,o,none⟩=false
 c0:W.cell? ⟨P,0,none⟩=some u1
 c1:W.cell? ⟨P,1,none⟩=some u2
 c2:W.cell? ⟨P,2,none⟩=some u3
 c3:W.cell? ⟨P,3,none⟩=some u4
 c4:W.cell? ⟨P,4,none⟩=some (.int .i64 (st.calls:Int))
 c5:W.cell? ⟨P,5,none⟩=some (.int .i64 0)
 c6:W.cell? ⟨P,6,none⟩=some (.int .i64 0)
 r1:W.ownsRow B 3 1 u1 st.ins.length (st.ins.map (Value.int .i64))
 r2:W.ownsRow B 40 6 u2 st.vs.length (fW st.vs)
 r3:W.ownsRow B 3 1 u3 st.outs.length (st.outs.map (Value.int .i64))
 r4:W.ownsRow B 128 5 u4 bs.length (bcF bs)
 np:u1.ownBlock≠some P/\u2.ownBlock≠some P/\u3.ownBlock≠some P/\u4.ownBlock≠some P
 ap:Apart u1 u2/\Apart u1 u3/\Apart u1 u4/\Apart u2 u3/\Apart u2 u4/\Apart u3 u4
 nl:bs.length=st.names.length
 nb:∀i,i<bs.length->BcOK (Mst P u1 u2 u3 u4) W (bs.getD i hM) (st.names.getD i (.val [] 0))
 sz:B<=P
theorem Apart.symm{u}(h:Apart u v):Apart v u:=λk O aI=>h k aI O
theorem WS.keep{W bs}(h:WS W P I u1 u2 u3 u4 bs st)(k:Kept 0 0 W W'):WS W' P I u1 u2 u3 u4 bs st:=by
 have e:∀o,_:=λo=>k.cell (p:=⟨P,o,none⟩) h.lt xaa;exact⟨yaj h.lt k.size,λo=>(k.frozen h.lt xaa).trans (h.fr o),(e 0).trans h.c0,(e 1).trans h.c1,(e 2).trans h.c2,(e 3).trans h.c3,(e 4).trans h.c4,(e 5).trans h.c5,(e 6).trans h.c6,eW h.r1 k,eW h.r2 k,eW h.r3 k,eW h.r4 k,h.np,h.ap,h.nl,λi hi=>(h.nb i hi).mv (Mv.of k),h.sz⟩
def TrO(W:World)(P B:Nat)(u1 u2 u3 u4:Value)(bs:List Bc)(r:Rs (LSt×Nat))(e:Ending)(W':World):Prop:=
 match r with
 |.error (c,p)=>e=.returned (.int .i64 (-1))/\W'.cell? ⟨P,5,none⟩=some (.int .i64 c)/\W'.cell? ⟨P,6,none⟩=some (.int .i64 (p:Int))/\Chg (Mst P u1 u2 u3 u4) W W'
 |.ok (st,v)=>e=.returned (.int .i64 (v:Int))/\∃v1 v2 v3 v4,WS W' P B v1 v2 v3 v4 bs st/\Mv (Mst P u1 u2 u3 u4) W (Mst P v1 v2 v3 v4) W'
structure Bad(W:World)(P:Nat)(M:Nat->Prop)(c:Int)(p:Nat)(W':World):Prop where
 c5:W'.cell? ⟨P,5,none⟩=some (.int .i64 c)
 c6:W'.cell? ⟨P,6,none⟩=some (.int .i64 (p:Int))
 chg:Chg M W W'
theorem jI{W}(bK:W.cell? ⟨P,5,none⟩=some (hF 0))(bm:W.cell? ⟨P,6,none⟩=some (hF 0))(fr:∀o,W.frozen? ⟨P,o,none⟩=false)(c)(p:Nat)(M)(C:M P):
  Calls prog 102 #[hD P,hF c,hF p] W λe W'=>e=.returned (hF (-1))/\Bad W P M c p W':=by
 have q:=fr 5;have F:=fr 6;have R1:V (((W.setCell _ _).setCell ⟨P,6,_⟩ (hF p)).cell? _=some (hF c)):=(eN _ _ _ _ _ _ (.inr xaa)).trans (fR _ _ _ _ _ bK);have R2:V (((W.setCell ⟨P,5,_⟩ (hF c)).setCell _ (hF p)).cell? _=some _):=fR _ _ _ _ _ ((eN _ _ _ _ _ _ (.inr xaa)).trans bm);have R3:V _:=Chg.andThen ((eU W ⟨P,5,none⟩ (hF c) yac).chg1 C) ((eU _ ⟨P,6,none⟩ (hF p) yac).chg1 C);clear fr C;go_enter func102,ntmps102;go_wp2;go_ret;exact⟨rfl,R1.o,R2.o,R3.o⟩
theorem mr{W:World}{bs}(f:W.ownsRow I 128 5 v bs.length (bcF bs))(h:0<bs.length):∃g cap,v=hE g bs.length cap/\I<=g/\g<W.heap.size/\bs.length<=cap/\
  ∀k,k<bs.length->W.cell? ⟨g,k*5,none⟩=some (eO (bs.getD k hM).nm)/\W.cell? ⟨g,k*5+1,none⟩=some (.bool (bs.getD k hM).fn)/\W.cell? ⟨g,k*5+2,none⟩=some (hF (bs.getD k hM).val)/\W.cell? ⟨g,k*5+3,none⟩=some (.slice (bs.getD k hM).pa (bs.getD k hM).pn (bs.getD k hM).pc)/\W.cell? ⟨g,k*5+4,none⟩=some (.slice (bs.getD k hM).ba (bs.getD k hM).bn (bs.getD k hM).bc):=by
 rcases f.2 with⟨_,c⟩|⟨g,cap,H,rfl,N,aD,ad,_,bE,bY⟩
 ·omega
 have aQ:g<W.heap.size:=by grind
 have au:∀k j,k<bs.length->j<5->W.cell? _=(bs.getD k _).cells[j]?:=λk j O hj=>by
  rw[cell_of_row W g _ _ _ _ aD,<-Array.getElem?_toList]
  have:(H.toList.take (bs.length*5))[k*5+j]? =(bcF bs)[k*5+j]?:=by rw[bY]
  rw[List.getElem?_take_of_lt xaa]at this
  rw[this]
  exact F1 _ k j O hj
 exact⟨g,_,rfl,N,aQ,ad,λk O=>⟨au k 0 O xaa,au k 1 O xaa,au k 2 O xaa,au k 3 O xaa,au k 4 O xaa⟩⟩
theorem jJ{W:World}{bs}(f:W.ownsRow I 128 5 v bs.length (bcF bs)):∃a cap,v=.slice a bs.length cap:=by
 rcases f.2 with⟨e,c⟩|⟨g,cap,H,e,_⟩<;>grind
def O4(bs:List Bc)(s:List UInt8)(r:Int):Prop:=(∃k:Nat,k<bs.length/\r=(k:Int)/\(bs.getD k hM).nm=s/\∀j,j<k->(bs.getD j hM).nm≠s)\/(r=-1/\∀j,j<bs.length->(bs.getD j hM).nm≠s)
theorem ro{W bs}(c3:W.cell? ⟨P,3,none⟩=some u4)(f:W.ownsRow I 128 5 u4 bs.length (bcF bs))(ah:bs.length<=100000)(s):
  Calls prog 104 #[hD P,eO s] W λe W'=>∃r,e=.returned (hF r)/\O4 bs s r/\W'=W:=by
 have aY:V _:=mr f;obtain⟨a,cap,rfl⟩:=jJ f;clear f;generalize hn:bs.length=n at ah c3 aY;have bw:V _:=hn;clear hn;go_enter func104,ntmps104;go_wp2_with fail;go_loopw [5] (λaM W'=>W'=W/\∃k:Nat,k<=n/\aM=hF k/\V (∀j,j<k->(bs.getD j hM).nm≠s)) (λaM _=>n-(intOf aM).toNat)
 case atStart=>exact⟨rfl,0,Nat.zero_le _,rfl,λj hj=>by omega⟩
 case round=>
  obtain⟨rfl,k,O,rfl,ar⟩:=hrel;by_cases aB:k<n
  ·obtain⟨g,b0,e,_,_,_,bm⟩:=aY.o xaa;cases e;have c1:=(bm k aB).1;have HK:V (∀x,(bs.getD k hM).nm=x->x=s->_):=λx B U=>B.trans U;generalize ap:(bs.getD k _).nm=x at c1;have bu:V _:=ap;clear ap bm;cases ao:(x==s)
   ·have R:V (∀j,j<k+1->(bs.getD j _).nm≠s):=λj hj=>by
     by_cases c:j=k
     ·subst c;rw[bu.o];grind
     ·exact ar.o j xaa
    go_wp2_with fail;exact xdd
   have R:V ((bs.getD k hM).nm=s):=by grind
   go_wp2_with fail;go_ret;exact⟨_,rfl,.inl ⟨k,hR bw.o aB,rfl,R.o,ar.o⟩,rfl⟩
  obtain rfl:k=n:=xaa;go_wp2_with fail;go_ret;exact⟨_,rfl,.inr ⟨rfl,hR bw.o ar.o⟩,rfl⟩
theorem F3(s w):Calls prog 139 #[eO s] w λe J=>e=.returned (hF (qF s))/\J=w:=by
 unfold qF;by_cases ai:s=[43]
 ·rw[hI ai];have bf:(s==[43])=true:=by grind
  clear ai;exact xfx
 rw[hG ai];have bf:=yaw ai;by_cases B:s=[45]
 ·rw[hI B];have aO:(s==[45])=true:=by grind
  clear ai B;exact xfx
 rw[hG B];have aO:=yaw B;by_cases U:s=[42]
 ·rw[hI U];have aX:(s==[42])=true:=by grind
  exact xjo
 rw[hG U];have aX:=yaw U;exact xjo
theorem tE(x y q)(ts:List Tok)(k)(h:k<ts.length):jF x y q (ts.take (k+1))=iI x y (jF x y q (ts.take k)) (ts.getD k hL):=by
 rw[yat h,fB,yah,yal h];rfl
theorem O5(x y):∀(ts:List Tok) (q:OpS),(jF x y q ts).i=q.i+ts.length
 |[],q=>rfl
 |t::ts,q=>by
  rw[eH,O5 x y _,yap]
  grind[iI]
theorem O6(x y):∀(ts:List Tok) (q:OpS),q.d-ts.length<=(jF x y q ts).d/\(jF x y q ts).d<=q.d+ts.length
 |[],q=>by rw[fV];simp
 |t::ts,q=>by
  rw[eH,yap]
  have B:=O6 x y ts (iI x y q t)
  grind[iI]
theorem PS(x y q t):(iI x y q t).b=i6 t.sym:=by unfold iI;grind
def opQ(x y:List UInt8)(ts:List Tok)(k:Nat):OpS:=jF x y ⟨0,0,-1,false⟩ (ts.take k)
theorem O7{k}(h:k<=ts.length):(opQ x y ts k).i=k:=by
 unfold opQ;rw[O5,List.length_take];show 0+_=_;omega
theorem O8{k}(h:k<ts.length):(opQ x y ts (k+1)).b=i6 (ts.getD k hL).sym:=by
 unfold opQ;rw[tE x y _ _ k h,PS]
theorem F4{k}(h:k<ts.length):opQ x y ts (k+1)=iI x y (opQ x y ts k) (ts.getD k hL):=tE x y _ ts k h
theorem M8{k:Nat}:-((k:Int))<=(opQ x y ts k).d/\(opQ x y ts k).d<=k:=by
 have h:=O6 x y (ts.take k) ⟨0,0,-1,false⟩;have U:(ts.take k).length<=k:=by rw[List.length_take];omega
 unfold opQ;simp only at h;omega
theorem fZ(W g off m cap ts)(f:TkA W g off m ts)(aw:m<=5000)(x y):
  Calls prog 137 #[.slice (some ⟨g,off,none⟩) m cap,eO x,eO y] W λe W'=>e=.returned (hF (opM x y ts))/\W'=W:=by
 have aL:V _:=f;have HL:V _:=f.len;have HE:V (opM x y ts=(opQ x y ts m).at_):=by show _=_;unfold opM opQ;rw[<-f.len,List.take_length]
 clear f;rw[HE.o];go_enter func137,ntmps137;go_wp2_with fail;go_loopw [7,8,9] (λX bq aM W'=>W'=W/\∃k:Nat,k<=m/\aM=hF k/\X=hF (opQ x y ts k).d/\bq=hF (opQ x y ts k).at_) (λ_ _ aM _=>m-(intOf aM).toNat)
 case atStart=>exact⟨rfl,0,Nat.zero_le _,rfl,rfl,rfl⟩
 case round=>
  obtain⟨rfl,k,O,rfl,rfl,rfl⟩:=hrel;by_cases aB:k<m
  ·have j:k<ts.length:=by rw[HL.o];exact aB
   have c0:=aL.o.c0 k aB;have au:V _:=F4 (x:=x) (y:=y) j;have aH:=M8 (x:=x) (y:=y) (ts:=ts) (k:=k);have hi:=O7 (x:=x) (y:=y) (ts:=ts) (k:=k) xaa;have o:V (k=0->(opQ x y ts k).b=false):=λh=>by subst h;rfl
   have aI:V (∀q,k=q+1->(opQ x y _ k).b=i6 (ts.getD q _).sym):=λq h=>by subst h;exact O8 xaa
   have am:V (∀q,k=q+1->_):=λq h=>aL.o.c0 q xaa;generalize opQ x y _ k=Q at au aH hi o aI⊢;generalize ts.getD k _=K at c0 au;obtain⟨n,d,a,b⟩:=Q;simp only at aH hi au o aI⊢;subst hi;by_cases B:K.sym=[40]
   ·have R:V (opQ x y _ _=⟨n+1,d+1,a,_⟩):=au.o.trans (wQ B);have aO:(K.sym==[40])=true:=by rw[B];rfl
    have aS:IntKind.i64.wrap (d+1)=d+1:=by rw[IntKind.wrap_i64];omega
    generalize K.sym=s at c0 aO;clear B au o aI am j;exact xfa
   by_cases U:K.sym=[41]
   ·have R:V (opQ x y _ _=⟨n+1,d-1,a,_⟩):=au.o.trans (wR U);have aO:=yaw B;have aX:(K.sym==[41])=true:=by rw[U];rfl
    have aS:IntKind.i64.wrap (d-1)=d-1:=by rw[IntKind.wrap_i64];omega
    generalize K.sym=s at c0 aO aX;clear B U au o aI am j;exact xfa
   have aO:=yaw B;have aX:=yaw U;have HO:V (¬(d=0/\b=true/\(K.sym=x\/K.sym=y))->opQ x y _ _=⟨n+1,d,a,_⟩):=λh=>au.o.trans (m7 B U h);have bl:V ((d=0/\b=true/\(K.sym=x\/K.sym=y))->opQ x y _ _=⟨n+1,d,n,_⟩):=λh=>au.o.trans (wS B U h);clear au B U;generalize i6 _=cp at HO bl;generalize K.sym=s at c0 aO aX HO bl;by_cases G:d=0
   ·subst G;cases n with
    |zero=>
     have R:V _:=HO.o (λc=>by have:=o.o rfl;rw[this]at c;exact absurd c.2.1 xac);clear o aI am j HO bl;rw[Nat.zero_mul,Nat.add_zero]at c0;go_wp2_with fail;go_roundw;exact⟨trivial,0+1,by omega,by go_num,by rw[R.o],by rw[R.o]⟩;simp[intOf];omega
    |succ q=>
     have hb:=aI.o q rfl;have c1:=am.o q rfl;generalize (ts.getD q _).sym=aT at hb c1;have r:V _:=hb;clear hb o aI am j;have aS:IntKind.i64.wrap ((q+1:Nat)-1)=q:=by rw[IntKind.wrap_i64];omega
     have bb:(0:Int)<(q:Nat)+1:=xaa;cases bv:(s==x)
     ·have t:s≠x:=λc=>by rw[c]at bv;simp at bv
      cases p:(s==y)
      ·have l:s≠y:=λc=>by rw[c]at p;simp at p
       have R:V _:=HO.o (λc=>c.2.2.elim t l);clear t l HO bl c1;go_wp2_with fail;go_roundw;exact⟨trivial,q+1+1,by omega,by go_num,by rw[R.o],by rw[R.o]⟩;simp[intOf];omega
      have u:s=y:=by simpa using p
      have af:V (i6 _=false->_):=λh=>HO.o (λc=>by rw[r.o,h]at c;exact absurd c.2.1 xac);have i:V _:=λh=>bl.o ⟨rfl,r.o.trans h,.inr u⟩;clear t u HO bl r;cases bi:(aT==[110,97,109,101])
      case true=>
       have R:V _:=i.o (by show i6 aT=_;unfold i6 gU iE kZ;rw[bi];rfl);clear af i;go_wp2_with fail;go_roundw;exact⟨trivial,q+1+1,by omega,by go_num,by rw[R.o],by rw[R.o]⟩;simp[intOf];omega
      case false=>
       cases a5:(aT==[105,110,116])
       case true=>
        have R:V _:=i.o (by show i6 aT=_;unfold i6 gU iE kZ;rw[bi,a5];rfl);clear af i;go_wp2_with fail;go_roundw;exact⟨trivial,q+1+1,by omega,by go_num,by rw[R.o],by rw[R.o]⟩;simp[intOf];omega
       case false=>
        cases p2:(aT==[100,101,99])
        case true=>
         have R:V _:=i.o (by show i6 aT=_;unfold i6 gU iE kZ;rw[bi,a5,p2];rfl);clear af i;go_wp2_with fail;go_roundw;exact⟨trivial,q+1+1,by omega,by go_num,by rw[R.o],by rw[R.o]⟩;simp[intOf];omega
        case false=>
         cases z:(aT==[41])
         case true=>
          have R:V _:=i.o (by show i6 aT=_;unfold i6 gU iE kZ;rw[bi,a5,p2,z];rfl);clear af i;go_wp2_with fail;go_roundw;exact⟨trivial,q+1+1,by omega,by go_num,by rw[R.o],by rw[R.o]⟩;simp[intOf];omega
         case false=>
          have R:V _:=af.o (by show i6 aT=_;unfold i6 gU iE kZ;rw[bi,a5,p2,z];rfl);clear af i;go_wp2_with fail;go_roundw;exact⟨trivial,q+1+1,by omega,by go_num,by rw[R.o],by rw[R.o]⟩;simp[intOf];omega
     have ea:s=x:=by simpa using bv
     have af:V (i6 _=false->_):=λh=>HO.o (λc=>by rw[r.o,h]at c;exact absurd c.2.1 xac);have i:V _:=λh=>bl.o ⟨rfl,r.o.trans h,.inl ea⟩;clear ea HO bl r;cases bi:(aT==[110,97,109,101])
     case true=>
      have R:V _:=i.o (by show i6 aT=_;unfold i6 gU iE kZ;rw[bi];rfl);clear af i;go_wp2_with fail;go_roundw;exact⟨trivial,q+1+1,by omega,by go_num,by rw[R.o],by rw[R.o]⟩;simp[intOf];omega
     case false=>
      cases a5:(aT==[105,110,116])
      case true=>
       have R:V _:=i.o (by show i6 aT=_;unfold i6 gU iE kZ;rw[bi,a5];rfl);clear af i;go_wp2_with fail;go_roundw;exact⟨trivial,q+1+1,by omega,by go_num,by rw[R.o],by rw[R.o]⟩;simp[intOf];omega
      case false=>
       cases p2:(aT==[100,101,99])
       case true=>
        have R:V _:=i.o (by show i6 aT=_;unfold i6 gU iE kZ;rw[bi,a5,p2];rfl);clear af i;go_wp2_with fail;go_roundw;exact⟨trivial,q+1+1,by omega,by go_num,by rw[R.o],by rw[R.o]⟩;simp[intOf];omega
       case false=>
        cases z:(aT==[41])
        case true=>
         have R:V _:=i.o (by show i6 aT=_;unfold i6 gU iE kZ;rw[bi,a5,p2,z];rfl);clear af i;go_wp2_with fail;go_roundw;exact⟨trivial,q+1+1,by omega,by go_num,by rw[R.o],by rw[R.o]⟩;simp[intOf];omega
        case false=>
         have R:V _:=af.o (by show i6 aT=_;unfold i6 gU iE kZ;rw[bi,a5,p2,z];rfl);clear af i;go_wp2_with fail;go_roundw;exact⟨trivial,q+1+1,by omega,by go_num,by rw[R.o],by rw[R.o]⟩;simp[intOf];omega
   have R:V _:=HO.o (λc=>G c.1);have hd0:=yaw G;clear o aI am j HO bl G;exact xfa
  obtain rfl:k=m:=xaa;go_wp2_with fail;go_ret;exact⟨rfl,rfl⟩
theorem O9(l k h):(((⟨l.toArray⟩:ByteArray)[k]'h).toNat:Int)=bt l k:=by
 have O:k<l.length:=by rw[<-gu];exact h
 unfold bt;rw[yah,yal O];rfl
theorem uW(l k)(h:k<l.length):iC (l.take (k+1))=iC (l.take k)*10+(bt l k-48):=by
 unfold iC;rw[yat h,List.foldl_append];unfold bt;simp_all
theorem uX{l}(h:Dgs l):∀k,k<=l.length->0<=iC (l.take k)/\iC (l.take k)<10 ^ k
 |0,_=>by rw[List.take_zero];exact⟨by decide,by decide⟩
 |k+1,O=>by
  have al:=uX h k xaa
  have G:=h.d k xaa
  rw[uW l k xaa,Int.pow_succ]
  omega
theorem Pa:∀k:Nat,k<=15->(10:Int) ^ k<=1000000000000000:=by
 intro k O;have:∀k:Fin 16,(10:Int) ^ k.1<=1000000000000000:=xab;exact this ⟨k,by omega⟩
theorem pN{l}(h:Dgs l){k}(O:k<=l.length):0<=iC (l.take k)/\iC (l.take k)<1000000000000000:=by
 have B:=uX h k O;have U:=Pa k (hO h.len);omega
theorem yR(t)(h:Dgs t.text)(W):Calls prog 105 #[i7 t] W λe W'=>e=.returned (hF (iC t.text))/\Kept 0 0 W W':=by
 obtain⟨aO,aT,l⟩:=t;simp only at h⊢;unfold i7;simp only;have HD:V _:=h;have ah:=h.len;have aH:V _:=im W aO aT l;have HK:V _:=ez 0 0 W (.cells #[eO aO,hF aT,eO l] 89);have ae:=gu l;clear h;go_enter func105,ntmps105;go_wp2_with fail;change Code.wp _ _ _ _ (W.alloc (.cells _ 89));generalize W.alloc _=ay at aH HK⊢;have aV:=aH.o.c2;go_loopw [3,4] (λv aM W'=>W'=ay/\∃k:Nat,k<=l.length/\aM=hF k/\v=hF (iC (l.take k))) (λ_ aM _=>l.length-(intOf aM).toNat)
 case atStart=>exact⟨rfl,0,Nat.zero_le _,rfl,rfl⟩
 case round=>
  obtain⟨rfl,k,O,rfl,rfl⟩:=hrel;by_cases aB:k<l.length
  ·have bS:=O9 l k;have G:=HD.o.d k aB;have hb:=pN HD.o O;have R:V _:=uW l k aB;generalize bt l k=x at bS G R;generalize iC _=v at hb R⊢;have aS:IntKind.i64.wrap (v*10)=v*10:=by rw[IntKind.wrap_i64];omega
   have bb:IntKind.u8.wrap (x-48)=x-48:=by grind[IntKind.wrap,IntKind.bits]
   have bq:IntKind.i64.wrap (v*10+(x-48))=v*10+(x-48):=by rw[IntKind.wrap_i64];omega
   have bD:IntKind.i64.wrap (x-48)=x-48:=by rw[IntKind.wrap_i64];omega
   have bg:(k:Int)<l.length:=xaa;go_wp2_with fail;go_roundw;exact⟨trivial,k+1,by omega,by go_num,by rw[R.o]⟩;simp[intOf];omega
  obtain rfl:k=l.length:=xaa;have bg:¬((l.length:Int)<l.length):=xaa;go_wp2_with fail;go_ret;exact⟨rfl,HK.o⟩
theorem bL.qby(h:Zp:=by
 have J:g9≠P:=λe=>by
  subst e
  rcases bm with c|c
  ·exact p2 c
  ·have:=h.lt;omega
 have ab:(Value.slice _ _ _).ownBlock≠some P:=λc=>J ((bB P).1 c);have am:∀o,_:=λo=>X.cell (p:=⟨P,o,none⟩) h.lt p2;have es:∀o,o≠1->(be.setCell ⟨P,1,_⟩ (hE g9 n9 cap9)).cell? _=W.cell? _:=λo ax=>(eN _ _ _ _ _ _ (.inr (λe=>ax e.symm))).trans (am o);have ae:=(eU (lo:=P) (hi:=P+1) be ⟨P,1,none⟩ (hE g9 n9 cap9) yac)
 have aL:Mv (Mst P u1 u2 u3 u4) W (Mst P u1 (hE g9 n9 cap9) u3 u4) (be.setCell ⟨P,1,none⟩ (hE g9 n9 cap9)):=by
  refine⟨Chg.andThen ⟨X.os,X.tape,X.output,X.size,λi hi hn=>X.block i hi (λc=>hn (.inr (.inr (.inl c))))⟩ (ae.chg1 (.inl rfl)),λb hb=>?_⟩;rcases hb with c|c|c|c|c
  ·exact .inl (.inl c)
  ·exact .inl (.inr (.inl c))
  ·rw[bB]at c;subst c;rcases bm with d|d
   ·exact .inl (.inr (.inr (.inl d)))
   omega
  ·exact .inl (.inr (.inr (.inr (.inl c))))
  exact .inl (.inr (.inr (.inr (.inr c))))
 exact qex):Zp:=h
theorem bL.qey(h:Zp:=by
 refine⟨⟨by simpa using yaj h.lt X.size,λo=>?_,(es 0 xab).trans h.c0,fR _ _ _ _ _ ((am 1).trans h.c1),(es 2 xab).trans h.c2,(es 3 xab).trans h.c3,(es 4 xab).trans h.c4,(es 5 xab).trans h.c5,(es 6 xab).trans h.c6,?_,?_,?_,?_,⟨a5,ab,z,l⟩,⟨bJ h.r1 f,m,p,(bJ h.r3 C.symm).symm,(bJ h.r4 q.symm).symm,r⟩,h.nl,λi hi=>(h.nb i hi).mv aL,h.sz⟩,aL⟩
 ·have:=(X.frozen h.lt p2).trans (h.fr o);simp[this]
 ·exact eJ (fI h.r1 X (λb hb c=>f b hb c)) a5
 ·subst hn;exact eJ aU ab
 ·exact eJ (fI h.r3 X (λb hb c=>C b c hb)) z
 exact eJ (fI h.r4 X (λb hb c=>q b c hb)) l):Zp:=h
open bL in
theorem WS.vals{W be bs}(h:WS W P I u1 u2 u3 u4 bs st)(X:Chg (λb=>u2.ownBlock=some b) W be){g9 n9 cap9}(hn:n9=vs.length)(aU:be.ownsRow I 40 6 (hE g9 n9 cap9) n9 (fW vs))(bm:u2.ownBlock=some g9\/W.heap.size<=g9):
  WS (be.setCell ⟨P,1,none⟩ (hE g9 n9 cap9)) P I u1 (hE g9 n9 cap9) u3 u4 bs {st with vs:=vs}/\Mv (Mst P u1 u2 u3 u4) W (Mst P u1 (hE g9 n9 cap9) u3 u4) (be.setCell ⟨P,1,none⟩ (hE g9 n9 cap9)):=by
 exact qbx
theorem jr{W:World}{e s n:Nat}{xs}(f:W.ownsRow I e s v n xs):∃a cap,v=.slice a n cap:=by
 rcases f.2 with⟨e,c⟩|⟨g,cap,H,e,_⟩<;>grind
theorem xv{W n xs}(f:W.ownsRow I 3 1 (.slice a n cap) n (xs.map (Value.int .i64)))(ah:xs.length=n):IS W 0 W.heap.size a n xs:=by
 refine⟨ah,?_⟩;rcases f.2 with⟨_,c⟩|⟨g,c,H,e,N,aD,ad,_,bE,bY⟩
 ·exact .inl c
 cases e;have aQ:g<W.heap.size:=by grind
 refine .inr ⟨g,0,rfl,Nat.zero_le _,aQ,aQ,λk O=>?_⟩;rw[Nat.zero_add,cell_of_row W g _ _ _ _ aD,<-Array.getElem?_toList];exact xju
theorem F5{W n}(f:W.ownsRow I 40 6 (.slice a n cap) n (fW vs))(ah:vs.length=n)(O:∀v∈vs,v.k<18446744073709551616):VS W 0 W.heap.size a n vs:=by
 by_cases ai:n=0
 ·exact⟨ah,O,.inl ai⟩
 obtain⟨g,c,e,N,aD,_,an⟩:=mb f xaa ah;cases e;exact an.vs O
theorem WS.gs{W bs}(h:WS W P I u1 u2 u3 u4 bs st)(O:∀v∈st.vs,v.k<18446744073709551616):∃a1 c1 Z c2 a3 c3,u1=.slice a1 st.ins.length c1/\u2=.slice Z st.vs.length c2/\u3=.slice a3 st.outs.length c3/\GS W a1 st.ins.length Z st.vs.length a3 st.outs.length st.ins st.vs st.outs:=by
 obtain⟨a1,c1,af⟩:=jr h.r1;obtain⟨Z,c2,a0⟩:=jr h.r2;obtain⟨a3,c3,aj⟩:=jr h.r3;refine⟨_,_,_,_,_,_,af,a0,aj,⟨xv (by have:=h.r1;rw[af]at this;exact this) rfl,F5 (by have:=h.r2;rw[a0]at this;exact this) rfl O,xv (by have:=h.r3;rw[aj]at this;exact this) rfl⟩⟩
structure Gd(st:LSt):Prop where
 n:st.vs.length<=2000
 c:fd st.vs<=50000
 ok:(List.range st.vs.length).all (okV st.ins st.vs)=true
 k:∀v∈st.vs,v.k<18446744073709551616
 i:st.ins.length<=20
 o:st.outs.length<=50
 m:st.names.length<=5000
theorem Gd.len(h:Gd st):∀k,k<st.vs.length->1<=(st.vs.getD k hK).len/\(st.vs.getD k hK).len<=1000:=λk O=>by
 have B:=List.all_eq_true.1 h.ok k (List.mem_range.2 O)
 exact of_decide_eq_true (qp B)
theorem yT{v}(h:∀k,k<vs.length->1<=(vs.getD k hK).len/\(vs.getD k hK).len<=1000)(aM:1<=v.len/\v.len<=1000):∀k,k<(vs++[v]).length->1<=((vs++[v]).getD k hK).len/\((vs++[v]).getD k hK).len<=1000:=λk O=>by
 grind
theorem tF{v}(h:∀u∈vs,u.k<18446744073709551616)(aM:v.k<18446744073709551616):∀u∈vs++[v],u.k<18446744073709551616:=λu aI=>by
 grind
theorem aA.qaw(h:Zp:=by
 go_region_law
  ((refine step_append_lies _ rfl (.tmp 12) (.tmp 14) 24 rfl I 40 bC (gO 0 0 0 0 0 0) 6 48 underlying24 hi bn bQ br rfl xab _ _ (fW st.vs) (by simp[Act.eval]) (lX aU.o 1 _) ⟨aG.heap.size,0,none⟩ 1 1 v.cells (by simp[Act.eval]) rfl (uC _ _ _) (Ai v) xab (by unfold maxLen;omega) xaa yaf _ rfl ?_;intro g9 cap9 be bv a6 b9 ck;have aW:=lF a6 aS HR.o.1 c1;have bH:=far2 a6 aS HR.o.1 cy;have aq:=lF a6 i HR.o.2 av;have aN:=lF a6 i HR.o.2 ba;have bA:=lF a6 i HR.o.2 bc;have cw:=lF a6 i HR.o.2 z;have cC:=lF a6 i HR.o.2 aa;have bE:=lF a6 i HR.o.2 ap))
 all_goals
  have S:=b9.imp id (λe=>Nat.le_of_eq e.symm)
  have Q:=(ez 0 0 aG (.cells #[hF v.op,hF v.len,hF v.a,hF v.b,hF v.c,.float .f64 v.k] 40)).trans (eL 0 0 _ 1)
  have l:be.ownsRow I 40 6 (hE g9 (bK+1) cap9) (bK+1) (fW (st.vs++[v])):=by rw[kD,mV];exact bv
  obtain⟨(o:V _),R⟩:=(a9.o.keep Q).vals (gX a6) (by rw[yak,bw.o];rfl) l S
  have a5:V _:=(H.o.keep Q).trans R
  clear R S Q bv l a6 b9 ck aW bH aq aN bA cw cC bE av ba bc z aa ap cy c1 aU a9 H
  generalize be.setCell ⟨P,1,_⟩ _=N at o a5⊢
  obtain⟨a1,bL,a2',bM,a3,cj,af,a0,aj,B⟩:=o.o.gs bN.o
  simp only at af aj B
  subst af aj
  have aL:V _:=AI _ _ _ _ _ bL _ bM _ cj _ _ _ B C.o
  have G:(st.vs++[v]).length=bK+1:=by grind
  have n:V _:=λW'=>je W' a1 a2' a3 st.ins.length bL (bK+1) bM st.outs.length cj xaa
  rw[G]at aL a0
  clear B
  have bd:=o.o.c0
  have aR:=o.o.c1
  have aV:=o.o.c2
  cases a0
  cases hb:kM (st.vs++[v])
  ·rw[hb]at aL aQ
   have u:V _:=aQ.o.trans (hG xac)
   have m:V (∀W',Kept 0 0 _ W'->W'.cell? _=some _/\W'.cell? _=some _/\W'.cell? _=some _):=λW' k=>⟨(o.o.keep k).c0,(o.o.keep k).c1,(o.o.keep k).c2⟩
   clear hb aQ
   go_wp2_with (first
    |(go_at_call 144;refine yai aL.o ?_;rintro e s ⟨rfl,f⟩;obtain⟨a7,aK,aP⟩:=m.o _ f)
    |(go_at_call 40;refine yai (n.o _) ?_;rintro e F ⟨rfl,j⟩))
   go_ret
   rw[u.o]
   exact⟨by simp,_,_,_,_,(o.o.keep f).keep j,(a5.o.keep f).keep j⟩
  ·rw[hb]at aL aQ
   have u:V _:=aQ.o.trans (hI rfl)
   have bT:V (∀W',Kept 0 0 _ W'->_):=λW' k=>jI (o.o.keep k).c5 (o.o.keep k).c6 (o.o.keep k).fr 5 p (Mst P (.slice a1 st.ins.length bL) (hE g9 (bK+1) cap9) (.slice a3 st.outs.length cj) u4) (.inl rfl)
   clear hb aQ
   go_wp2_with (first
    |(go_at_call 144;refine yai aL.o ?_;rintro e s ⟨rfl,f⟩)
    |(go_at_call 102;refine yai (bT.o _ f) ?_;rintro e F ⟨rfl,aI⟩))
   go_ret
   rw[u.o]
   exact⟨rfl,aI.c5,aI.c6,(a5.o.keep f).bad aI.chg⟩):Zp:=h
open aA in
theorem ms{W bs}(h:WS W P I u1 u2 u3 u4 bs st)(g:Gd st)(v)(aM:1<=v.len/\v.len<=1000)(ad:v.k<18446744073709551616)(p:Nat):
  Calls prog 106 #[hD P,v.agg,hF p] W (TrO W P I u1 u2 u3 u4 bs (gh st v p)):=by
 exact qav
end
section
variable{n:Int}{p i:Nat}{st:LSt}{r:List Nat}
theorem F6{vs}(h:kM vs=false):vs.length<=2000/\fd vs<=50000:=by
 grind[kM]
theorem Gd.put{st}(g:Gd st){v}(aM:okV st.ins (st.vs++[v]) st.vs.length=true)(O:v.k<18446744073709551616)(ah:kM (st.vs++[v])=false):Gd {st with vs:=st.vs++[v]}:=by
 obtain⟨B,U⟩:=F6 ah;refine⟨B,U,?_,tF g.k O,g.i,g.o,g.m⟩;rw[List.all_eq_true];intro i hi;have hi':=List.mem_range.1 hi;simp only[yak,List.length_singleton]at hi';by_cases c:i<st.vs.length
 ·exact qn c (List.all_eq_true.1 g.ok i (List.mem_range.2 c))
 grind
theorem Gd.lenB(g:Gd st)(h:i<st.vs.length):1<=fe st i/\fe st i<=1000:=g.len i h
theorem BG(ins vs v)(ai:v.op≠0)(ah:1<=v.len/\v.len<=1000)(ae:gC v=true)(ax:∀o∈eY v,0<=o/\o<(vs.length:Int))(l:eR v.op v.len v.c ((eY v).map λo=>(vs.getD o.toNat hK).len)=true):okV ins (vs++[v]) vs.length=true:=by
 have aM:(vs++[v]).getD vs.length hK=v:=by simp_all
 have aw:((eY v).map λo=>((vs++[v]).getD o.toNat hK).len)=((eY v).map λo=>(vs.getD o.toNat hK).len):=by
  apply List.map_congr_left;intro o af;have:=ax o af;grind
 grind[okV,lenB,fN]
theorem uY(st)(xs:List Nat)(k)(h:k<xs.length):pL st (xs.take (k+1))=if pL st (xs.take k)<fe st (xs.getD k 0)then fe st (xs.getD k 0)else pL st (xs.take k):=by
 unfold pL;rw[yat h,List.foldl_append,yah,yal h];rfl
theorem xw{st}(g:Gd st)(xs:List Nat)(ap:∀i∈xs,i<st.vs.length):∀k,k<=xs.length->1<=pL st (xs.take k)/\pL st (xs.take k)<=1000
 |0,_=>by simp_all[pL]
 |k+1,O=>by
  have al:=xw g _ ap k xaa
  have aw:xs.getD k 0∈xs:=by grind
  have:=g.lenB (ap _ aw)
  rw[uY _ _ k xaa]
  omega
def tG(js:List Nat)(r:Rs (LSt×List Nat)):Rs (LSt×List Nat):=
 match r with
 |.error f=>.error f
 |.ok (s,ks)=>.ok (s,js++ks)
theorem F7(r):tG [] r=r:=by
 cases r with
 |error f=>rfl
 |ok x=>rfl
theorem oA(h:¬fe st i<n):iL n p st (i::r)=tG [i] (iL n p st r):=by
 rw[iL,hG h];cases iL n p st r with
 |error f=>rfl
 |ok x=>rfl
theorem pB{s j}(h:fe st i<n)(aF:gh st (eK 10 n (i:Int) 0 0) p=.ok (s,j)):iL n p st (i::r)=tG [j] (iL n p s r):=by
 rw[iL,hI h,aF];simp only;cases iL n p s r with
 |error f=>rfl
 |ok x=>rfl
theorem pC{f}(h:fe st i<n)(aF:gh st (eK 10 n (i:Int) 0 0) p=.error f):iL n p st (i::r)=.error f:=by
 rw[iL,hI h,aF]
theorem uZ(a b r):tG a (tG b r)=tG (a++b) r:=by
 cases r<;>grind[tG]
theorem JO(hi:i<st.vs.length)(B:fe st i=1)(hn:1<=n/\n<=1000):okV st.ins (st.vs++[eK 10 n (i:Int) 0 0]) st.vs.length=true:=by
 refine BG _ _ _ (show 10≠0 by decide) hn (by rfl) ?_ ?_
 ·grind[eY]
 simp_all[eY,fe,cnt,eR]
end
section
attribute[local go_sem] eF eE eD
variable{P I n:Nat}{u1 u2 u3 u4:Value}{a:Option Addr}{bs:List Bc}{st:LSt}{s:List UInt8}
structure LcR(M:Nat->Prop)(W:World)(a:Option Addr)(n:Nat)(loc:Loc):Prop where
 len:loc.length=n
 at_:0<n->∃g off,a=some ⟨g,off,none⟩/\¬M g/\g<W.heap.size/\∀k,k<n->W.cell? ⟨g,off+k*2,none⟩=some (eO (loc.getD k ([],0)).1)/\W.cell? ⟨g,off+k*2+1,none⟩=some (.int .i64 ((loc.getD k ([],0)).2:Int))
theorem LcR.mv{M M' W W' u}(h:LcR M W a n u)(k:Mv M W M' W'):LcR M' W' a n u:=
 ⟨h.len,λhn=>by
  obtain⟨g,off,e,B,U,h3⟩:=h.at_ hn
  exact⟨g,_,e,λc=>(k.new g c).elim B (λc=>by omega),yaj U k.chg.size,λj hj=>⟨(k.chg.cell U B).trans (h3 j hj).1,(k.chg.cell U B).trans (h3 j hj).2⟩⟩⟩
theorem LcR.keep{M W W' u}(h:LcR M W a n u)(k:Kept 0 0 W W'):LcR M W' a n u:=h.mv (Mv.of k)
def VlO(W:World)(P:Nat)(M:Nat->Prop)(r:Rs Nat)(e:Ending)(W':World):Prop:=
 match r with
 |.error (c,p)=>e=.returned (.int .i64 (-1))/\Bad W P M c p W'
 |.ok v=>e=.returned (.int .i64 (v:Int))/\Kept 0 0 W W'
theorem pO{B:Type}(p z):∀(l:List B) (k:Nat),k<l.length->p (l.getD k z)=true->(∀j,j<k->p (l.getD j z)=false)->l.find? p=some (l.getD k z)
 |x::r,0,_,h,_=>by simp_all
 |x::r,k+1,O,h,hj=>by
  have ai:=hj 0 xaa
  rw[List.find?_cons_of_neg (by grind)]
  exact pO p z r k (by grind) h (λj m=>hj (j+1) xaa)
theorem rp{B:Type}(p z):∀(l:List B),(∀j,j<l.length->p (l.getD j z)=false)->l.find? p=none
 |[],_=>rfl
 |x::r,h=>by
  have ai:=h 0 xac
  rw[List.find?_cons_of_neg (by grind)]
  exact rp p z r (λj hj=>h (j+1) (by grind))
theorem ve{M W b d}(h:BcOK M W b d):b.nm=d.nm:=by cases d<;>exact h.1
theorem oB{W}(h:WS W P I u1 u2 u3 u4 bs st){k}(O:k<bs.length)(B:(bs.getD k hM).nm=s)(U:∀j,j<k->(bs.getD j hM).nm≠s):iX st.names s=some (st.names.getD k (.val [] 0)):=
 pO (λb:Bdg=>b.nm==s) (.val [] 0) st.names k (hS h.nl O) (by rw[<-ve (h.nb k O),B];simp) (λj hj=>by rw[<-ve (h.nb j xaa)];grind)
theorem pd{W}(h:WS W P I u1 u2 u3 u4 bs st)(U:∀j,j<bs.length->(bs.getD j hM).nm≠s):iX st.names s=none:=
 rp (λb:Bdg=>b.nm==s) (.val [] 0) st.names (λj hj=>by rw[<-ve (h.nb j (hR h.nl hj))];exact yaw (U j (hR h.nl hj)))
theorem xy{W}(h:WS W P I u1 u2 u3 u4 bs st)(aw:st.names.length<=5000)(bC bn cL u)(bQ:LcR (Mst P u1 u2 u3 u4) W bC bn u)(hn:bn<=5000)(t):
  Calls prog 140 #[hD P,.slice bC bn cL,i7 t] W (VlO W P (Mst P u1 u2 u3 u4) (fJ st u t)):=by
 obtain⟨aO,aT,bv⟩:=t;have aH:V _:=im W aO aT bv;have am:=ez 0 0 W (.cells #[eO aO,hF aT,eO bv] 89);have b4:V _:=am;have a9:V _:=h.keep am;have cw:V _:=bQ.keep am;have f:V _:=bQ.len;have a0:bs.length<=100000:=hT h.nl
 have b1:V (fJ st _ ⟨aO,_,_⟩=match AJ u bv with|some v=>.ok v|none=>match iX _ bv with|some (.val _ v)=>.ok v|_=>.error (3,aT)):=rfl;generalize fJ st _ _=r at b1⊢;unfold i7;simp only;clear am h bQ;go_enter func140,ntmps140;go_wp2_with fail;change Code.wp _ _ _ _ (W.alloc (.cells _ 89));generalize W.alloc _=ay at aH b4 a9 cw⊢;go_loopw [7] (λaM W'=>∃k:Nat,k<=bn/\aM=hF k/\V (Kept 0 0 ay W')/\V (∀j,j<k->(u.getD j ([],0)).1≠bv)) (λaM _=>bn-(intOf aM).toNat)
 case atStart=>exact⟨0,Nat.zero_le _,rfl,hN,λj hj=>by omega⟩
 case round=>
  obtain⟨k,O,rfl,ar,aj⟩:=hrel;by_cases aB:k<bn
  ·obtain⟨g,off,rfl,_,aQ,ak⟩:=(cw.o.keep ar.o).at_ xaa;obtain⟨c1,_⟩:=ak k aB;have c2:=(aH.o.keep ar.o).c2
   have bg:V (∀W',Kept 0 0 _ W'->W'.cell? _=some _):=λW' al=>by
    obtain⟨aA,H,e,_,_,ai⟩:=(cw.o.keep al).at_ xaa
    cases e
    exact(ai k aB).2
   generalize ap:(u.getD k _).1=x at c1;have bj:V _:=ap;clear ap ak;go_upto_region 4 with fail;go_quiet (fail)
   have bU:V _:=Kept.trans ar.o (eL 0 0 _ nq);clear c1 c2 ar aQ;generalize wr.drewN _=b8 at bU⊢;cases ao:(x==bv)
   ·have R:V (∀j,j<k+1->(u.getD j _).1≠bv):=λj hj=>by
     by_cases c:j=k
     ·subst c;rw[bj.o];intro d;rw[d]at ao;simp at ao
     ·exact aj.o j xaa
    go_wp2_with fail;go_roundw;exact⟨k+1,by omega,by go_num,bU,R⟩;simp[intOf];omega
   have R:V (r=.ok (u.getD k ([],0)).2):=by
    show _=_
    have ah:AJ u bv=some (u.getD k ([],0)).2:=by
     unfold AJ;rw[pO (λb:List _×Nat=>b.1==bv) _ _ k (hR f.o aB) (by show((u.getD k ([],0)).1==bv)=true;rw[bj.o];exact ao) (λj hj=>yaw (aj.o j hj))];rfl
    rw[b1.o,ah]
   have c3:=bg.o _ bU.o;clear bg;go_wp2_with fail;go_ret;rw[R.o];exact⟨rfl,b4.o.trans bU.o⟩
  obtain rfl:k=bn:=xaa
  have m:V (AJ u bv=none):=by
   show _=_;unfold AJ;rw[rp (λb:List _×Nat=>b.1==bv) _ _ (λj hj=>yaw (aj.o j (by rw[f.o]at hj;exact hj)))];rfl
  have bp:V _:=a9.o.keep ar.o;have cz:V _:=aH.o.keep ar.o;have bA:V _:=b4.o.trans ar.o;have c2:=cz.o.c2;have c1:=cz.o.c1;have aF:V _:=ro bp.o.c3 bp.o.r4 a0 bv;have c3:=bp.o.c3;have bT:V _:=jI bp.o.c5 bp.o.c6 bp.o.fr 3 aT (Mst P u1 u2 u3 u4) (.inl rfl);have B:V _:=mr bp.o.r4;obtain⟨a4,cj,aX⟩:=jJ bp.o.r4;clear ar aj cw aH;subst aX;go_upto_region 7 with (go_at_call 104;refine yai aF.o ?_;rintro e ag ⟨i,rfl,bx,X⟩;obtain rfl:=X.symm);rcases bx with⟨an,bZ,rfl,G,b5⟩|⟨rfl,hn⟩
  ·have bH:V _:=oB bp.o bZ G b5;have l:V _:=bp.o.nb _ bZ;obtain⟨bi,b0,e4,_,_,_,bm⟩:=B.o xaa;cases e4;obtain⟨_,d1,d2,_,_⟩:=bm _ bZ;generalize bd:bs.length=nn at*;generalize bs.getD an _=b at d1 d2 l;generalize st.names.getD an _=aD at bH l;have aK:¬((an:Int)<0):=xaa;cases aD with
   |val bJ v=>
    have U:=l.o.2.1;have cp:=l.o.2.2;rw[U]at d1;rw[cp]at d2;have R:V (r=.ok v):=by show _=_;rw[b1.o,m.o,bH.o]
    clear U cp G b5 bm bd l B;go_wp2_with fail;go_ret;rw[R.o];exact⟨rfl,bA.o⟩
   |fn bJ az y=>
    have U:=l.o.2.1;rw[U]at d1;have R:V (r=.error (3,aT)):=by show _=_;rw[b1.o,m.o,bH.o]
    clear U G b5 bm bd l B d2;go_wp2_with (go_at_call 102;refine yai bT.o ?_;rintro e a8 ⟨rfl,aI⟩);go_ret;rw[R.o];exact⟨rfl,aI.c5,aI.c6,(Mv.of bA.o).bad aI.chg⟩
  have R:V (r=.error (3,aT)):=by show _=_;rw[b1.o,m.o,pd bp.o hn]
  clear hn B;go_wp2_with (go_at_call 102;refine yai bT.o ?_;rintro e a8 ⟨rfl,aI⟩);go_ret;rw[R.o];exact⟨rfl,aI.c5,aI.c6,(Mv.of bA.o).bad aI.chg⟩
