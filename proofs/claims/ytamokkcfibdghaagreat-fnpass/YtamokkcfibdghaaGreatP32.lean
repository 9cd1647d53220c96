import Derived.Test.YtamokkcfibdghaaGreatP26
import Derived.Test.YtamokkcfibdghaaGreatP27
import Derived.Test.YtamokkcfibdghaaGreatP17
namespace Go.Proofs.Z
variable {Zp:Prop}
open Tryz
set_option maxRecDepth 1000000
set_option maxHeartbeats 0
section
open Go.RowKit Flt
variable {ts:List Tok}
def kIn:List UInt8:=[105,110]
def Kp:List UInt8:=[108,101,116]
def Kq:List UInt8:=[111,117,116]
def GL:List UInt8:=[100,101,102]
def Kr:List UInt8:=[114,101,112,101,97,116]
theorem Ks{n es}(h:Pr n es ts):∀t∈ts,t.sym≠[59]:=by
 induction h<;>(try simp only[List.forall_mem_append,List.forall_mem_cons])<;>grind [iK,lg,gS,zd,FL,AV,JL,ze,vn,qA,Dj,BU,JM]
inductive Sm where
 |inS (n l:Tok)
 |letS (n:Tok) (e:Ex)
 |rep (i n:Tok) (e:Ex)
 |defS (n:Tok) (ps:List Tok) (e:Ex)
 |outS (k:Tok) (e:Ex)
inductive PPm:List Tok->List Tok->Prop
 |one {t:Tok}:t.sym=gS->PPm [t] [t]
 |more {ps ts:List Tok}{c t:Tok}:PPm ps ts->c.sym=[44]->t.sym=gS->PPm (ps++[t]) (ts++[c,t])
theorem GM{aS}(h:PPm aS ts):∀t∈ts,t.sym=gS\/t.sym=[44]:=by
 induction h<;>grind
inductive PSm:Sm->List Tok->Prop
 |inS {k n c l:Tok}:k.sym=kIn->n.sym=gS->c.sym=[58]->l.sym=iK->PSm (.inS n l) [k,n,c,l]
 |letS {k n q:Tok}{e:Ex}{ts:List Tok}:k.sym=Kp->n.sym=gS->q.sym=[61]->Pr 2 [e] ts->PSm (.letS n e) (k::n::q::ts)
 |rep {k i n q:Tok}{e:Ex}{ts:List Tok}:k.sym=Kr->i.sym=iK->n.sym=gS->q.sym=[61]->Pr 2 [e] ts->PSm (.rep i n e) (k::i::n::q::ts)
 |def0 {k n l r q:Tok}{e:Ex}{ts:List Tok}:k.sym=GL->n.sym=gS->l.sym=[40]->r.sym=[41]->q.sym=[61]->Pr 2 [e] ts->PSm (.defS n [] e) (k::n::l::r::q::ts)
 |defS {k n l r q:Tok}{e:Ex}{ps us ts:List Tok}:k.sym=GL->n.sym=gS->l.sym=[40]->PPm ps us->r.sym=[41]->q.sym=[61]->Pr 2 [e] ts->PSm (.defS n ps e) (k::n::l::(us++r::q::ts))
 |outS {k:Tok}{e:Ex}{ts:List Tok}:k.sym=Kq->Pr 2 [e] ts->PSm (.outS k e) (k::ts)
theorem Kt{s}(h:PSm s ts):∀t∈ts,t.sym≠[59]:=by
 cases h<;>grind [Ks,GM,kIn,Kp,Kr,GL,Kq,iK,gS]
inductive PGm:List Sm->List Tok->Prop
 |nil:PGm [] []
 |cons {s:Sm}{ss:List Sm}{ts us:List Tok}{c:Tok}:PSm s ts->c.sym=[59]->PGm ss us->PGm (s::ss) (ts++c::us)
theorem vC{n}:∀(k:Nat) (ts:List Tok),ts.length<=k->∀r aS h,PPm aS h->fH n ts (gN::r)=-1->∃j us F,ts=us++F/\PPm j (h++us)/\fH n F r=-1
 |k,ts,O,r,aS,h,aK,S=>by
  rw[iT xab]at S
  by_cases c:hdS ts=[44]
  ·rw[show gD gN (hdS ts)=[[44],[110,97,109,101],gN] by rw[c];rfl]at S
   obtain⟨o,us,rfl,av,S⟩:=eV xab S
   obtain⟨t,f,rfl,ht,S⟩:=eV xab S
   match k,O with
   |0,O=>simp at O
   |k+1,O=>
    obtain⟨j,p,F,rfl,h3,S⟩:=vC k f (by simp at O;omega) r (aS++[t]) (h++[o,t]) (.more aK av ht) S
    exact⟨j,o::t::p,F,by simp,by simpa using h3,S⟩
  ·rw[show gD gN (hdS ts)=[] by
    unfold gD
    rw[hJ xab,hJ xab,hK rfl,hJ c]]at S
   exact⟨aS,[],ts,rfl,by simpa using aK,S⟩
theorem zL{n}:∀(k:Nat) (ts:List Tok),ts.length<=k->fH n ts [iN]=-1->∃U,PGm U ts
 |k,ts,O,S=>by
  rw[iT xab]at S
  unfold gD at S
  rw[hK rfl]at S
  generalize hdS ts=s at S
  have g:∀{us:List Tok},us.length<ts.length->fH n us [iN]=-1->∃U,PGm U us:=λ{us} ah h=>by
   match k,O with
   |0,O=>omega
   |k+1,O=>exact zL k us xaa h
  by_cases bY:s=[105,110]
  ·rw[hK bY]at S
   obtain⟨an,us,rfl,B,S⟩:=eV xab S
   obtain⟨ao,us,rfl,R,S⟩:=eV xab S
   obtain⟨aM,us,rfl,h3,S⟩:=eV xab S
   obtain⟨bZ,us,rfl,a8,S⟩:=eV xab S
   obtain⟨bc,us,rfl,bQ,S⟩:=eV xab S
   obtain⟨U,aW⟩:=g yaf S
   exact⟨_,.cons (ts:=[an,ao,aM,bZ]) (.inS B R h3 a8) bQ aW⟩
  rw[hJ bY]at S
  by_cases br:s=[108,101,116]
  ·rw[hK br]at S
   obtain⟨an,us,rfl,B,S⟩:=eV xab S
   obtain⟨ao,us,rfl,R,S⟩:=eV xab S
   obtain⟨aM,us,rfl,h3,S⟩:=eV xab S
   obtain⟨e,us,F,rfl,a8,S⟩:=qF S
   obtain⟨bc,i,rfl,bQ,S⟩:=eV xab S
   obtain⟨U,aW⟩:=g yaf S
   exact⟨_,.cons (ts:=an::ao::aM::us) (.letS B R h3 a8) bQ aW⟩
  rw[hJ br]at S
  by_cases ag:s=[114,101,112,101,97,116]
  ·rw[hK ag]at S
   obtain⟨an,us,rfl,B,S⟩:=eV xab S
   obtain⟨ao,us,rfl,R,S⟩:=eV xab S
   obtain⟨aM,us,rfl,h3,S⟩:=eV xab S
   obtain⟨bZ,us,rfl,a8,S⟩:=eV xab S
   obtain⟨e,us,F,rfl,bV,S⟩:=qF S
   obtain⟨bc,i,rfl,bQ,S⟩:=eV xab S
   obtain⟨U,aW⟩:=g yaf S
   exact⟨_,.cons (ts:=an::ao::aM::bZ::us) (.rep B R h3 a8 bV) bQ aW⟩
  rw[hJ ag]at S
  by_cases aD:s=[100,101,102]
  ·rw[hK aD]at S
   obtain⟨an,us,rfl,B,S⟩:=eV xab S
   obtain⟨ao,us,rfl,R,S⟩:=eV xab S
   obtain⟨aM,us,rfl,h3,S⟩:=eV xab S
   have S:fH n us (lD::[41]::[61]::gU::[59]::[iN])=-1:=S
   rw[iT xab]at S
   by_cases c:hdS us=[110,97,109,101]
   ·rw[show gD lD (hdS us)=[[110,97,109,101],gN] by rw[c];rfl]at S
    obtain⟨t,f,rfl,ht,S⟩:=eV xab S
    obtain⟨aS,p,F,rfl,aK,S⟩:=vC f.length f yad _ [t] [t] (.one ht) S
    obtain⟨b6,us,rfl,bV,S⟩:=eV xab S
    obtain⟨b0,us,rfl,aA,S⟩:=eV xab S
    obtain⟨e,us,F,rfl,aa,S⟩:=qF S
    obtain⟨bc,i,rfl,bQ,S⟩:=eV xab S
    obtain⟨U,aW⟩:=g yaf S
    have:=PGm.cons (ts:=an::ao::aM::(t::p++b6::b0::us)) (.defS B R h3 aK bV aA aa) bQ aW
    exact⟨_,by simpa using this⟩
   ·rw[show gD lD (hdS us)=[] by
     unfold gD
     rw[hJ xab,hK rfl,hJ c]]at S
    obtain⟨b6,us,rfl,bV,S⟩:=eV xab S
    obtain⟨b0,us,rfl,aA,S⟩:=eV xab S
    obtain⟨e,us,F,rfl,aa,S⟩:=qF S
    obtain⟨bc,i,rfl,bQ,S⟩:=eV xab S
    obtain⟨U,aW⟩:=g yaf S
    exact⟨_,.cons (ts:=an::ao::aM::b6::b0::us) (.def0 B R h3 bV aA aa) bQ aW⟩
  rw[hJ aD]at S
  by_cases cg:s=[111,117,116]
  ·rw[hK cg]at S
   obtain⟨an,us,rfl,B,S⟩:=eV xab S
   obtain⟨e,us,F,rfl,a8,S⟩:=qF S
   obtain⟨bc,i,rfl,bQ,S⟩:=eV xab S
   obtain⟨U,aW⟩:=g yaf S
   exact⟨_,.cons (ts:=an::us) (.outS B a8) bQ aW⟩
  rw[hJ cg]at S
  cases ts with
  |nil=>exact⟨_,.nil⟩
  |cons t ts=>
   rw[List.nil_append,fH,nC]at S
   simp only at S
   omega
theorem Ku{n}(h:fH n ts [iN]=-1):∃U,PGm U ts:=zL ts.length ts yad h
inductive Bdg where
 |val (nm:List UInt8) (v:Nat)
 |fn (nm:List UInt8) (ps:List Tok) (e:Ex)
def Bdg.nm:Bdg->List UInt8
 |.val n _=>n
 |.fn n _ _=>n
structure LSt where
 ins:List Int
 vs:List Vl
 outs:List Int
 names:List Bdg
 calls:Nat
abbrev GN:=Int×Nat
abbrev Rs (α:Type):=Except GN α
def fZ (st:LSt)(v:Vl)(p:Nat):Rs (LSt×Nat):=if kM (st.vs++[v])=true then .error (5,p)else .ok ({st with vs:=st.vs++[v]},st.vs.length)
def fg (st:LSt)(i:Nat):Int:=(st.vs.getD i hM).len
def i9 (ns:List Bdg)(s:List UInt8):Option Bdg:=ns.find? λb=>b.nm==s
def Bh (loc:List (List UInt8×Nat))(s:List UInt8):Option Nat:=(loc.find? λb=>b.1==s).map (·.2)
def fD (st:LSt)(loc:List (List UInt8×Nat))(t:Tok):Rs Nat:=
 match Bh loc t.text with
 |some v=>.ok v
 |none=>match i9 st.names t.text with
  |some (.val _ v)=>.ok v
  |_=>.error (3,t.pos)
def pO (st:LSt)(xs:List Nat):Int:=xs.foldl (λn i=>if n<fg st i then fg st i else n) 1
def iS (n:Int)(p:Nat):LSt->List Nat->Rs (LSt×List Nat)
 |st,[]=>.ok (st,[])
 |st,i::r=>if fg st i<n then
   match fZ st (eL 10 n (i:Int) 0 0) p with
   |.error f=>.error f
   |.ok (st1,j)=>match iS n p st1 r with
    |.error f=>.error f
    |.ok (st2,js)=>.ok (st2,j::js)
  else match iS n p st r with
   |.error f=>.error f
   |.ok (st2,js)=>.ok (st2,i::js)
def ko (st:LSt)(xs:List Nat)(p:Nat):Rs (LSt×List Nat):=if xs.all (λi=>fg st i==pO st xs||fg st i==1)=true then iS (pO st xs) p st xs else .error (4,p)
def iH (t:List UInt8):Int:=t.foldl (λv b=>v*10+((b.toNat:Int)-48)) 0
def oB (t:List UInt8):Nat:=cop .quo (floatOfInt .f64 (nds (ir t)).1) (floatOfInt .f64 (nds (ir t)).2.1)
def qK (s:List UInt8):Int:=if s=[43]then 2 else if s=[45]then 3 else if s=[42]then 4 else 5
def iV (st:LSt)(m:List Vl×Int)(p:Nat):Rs (LSt×Nat):=if kM m.1=true then .error (5,p)else .ok ({st with vs:=m.1},m.2.toNat)
def mj (st:LSt)(k:Tok)(a:Nat)(n:Tok):Rs (LSt×Nat):=
 if k.sym=qA then
  if fg st a<=iH n.text then .error (4,n.pos)else fZ st (eL 11 1 (a:Int) 0 (iH n.text)) k.pos
 else if fg st a≠1 then .error (4,k.pos)
 else if iH n.text<1\/1000<iH n.text then .error (4,n.pos)else fZ st (eL 10 (iH n.text) (a:Int) 0 0) k.pos
def ml (st:LSt)(k:Tok)(a:Nat)(i n:Tok):Rs (LSt×Nat):=
 if fg st a≠1 then .error (4,k.pos)
 else if iH n.text<1\/1000<iH n.text then .error (4,n.pos)
 else if iH n.text<=iH i.text then .error (4,i.pos)else fZ st (eL 12 (iH n.text) (a:Int) 0 (iH i.text)) k.pos
def qL (st:LSt)(o:Tok)(a b:Nat):Rs (LSt×Nat):=
 match ko st [a,b] o.pos with
 |.error f=>.error f
 |.ok (s2,f)=>fZ s2 (eL (qK o.sym) (fg s2 (f.getD 0 0)) (f.getD 0 0:Nat) (f.getD 1 0:Nat) 0) o.pos
def qM (st:LSt)(k:Tok)(a b:Nat):Rs (LSt×Nat):=
 match ko st [a,b] k.pos with
 |.error f=>.error f
 |.ok (s2,f)=>
  if k.sym=AV then fZ s2 (eL 7 (fg s2 (f.getD 0 0)) (f.getD 0 0:Nat) (f.getD 1 0:Nat) 0) k.pos
  else match fZ s2 (eL 4 (fg s2 (f.getD 0 0)) (f.getD 0 0:Nat) (f.getD 1 0:Nat) 0) k.pos with
   |.error f=>.error f
   |.ok (s3,p)=>fZ s3 (eL 9 1 (p:Int) 0 0) k.pos
def xU (st:LSt)(k:Tok)(a b c:Nat):Rs (LSt×Nat):=
 match ko st [a,b,c] k.pos with
 |.error f=>.error f
 |.ok (s2,f)=>fZ s2 (eL 8 (fg s2 (f.getD 0 0)) (f.getD 0 0:Nat) (f.getD 1 0:Nat) (f.getD 2 0:Nat)) k.pos
def pE (st:LSt)(k:Tok)(a x:Nat):Rs (LSt×Nat):=if fg st a≠1 then .error (4,k.pos)else iV st (grM st.vs a x) k.pos
def pP (st:LSt)(k:Tok)(a x d:Nat):Rs (LSt×Nat):=
 if fg st d=1/\1<fg st x then
  match fZ st (eL 10 (fg st x) (d:Int) 0 0) k.pos with
  |.error f=>.error f
  |.ok (s2,d2)=>iV s2 (j9 s2.vs a x d2) k.pos
 else if fg st d≠fg st x then .error (4,k.pos)else iV st (j9 st.vs a x d) k.pos
abbrev Loc:=List (List UInt8×Nat)
def jJ (r:Option (Rs (LSt×Nat)))(f:LSt->Nat->Option (Rs (LSt×Nat))):Option (Rs (LSt×Nat)):=
 match r with
 |none=>none
 |some (.error e)=>some (.error e)
 |some (.ok (st,a))=>f st a
def gm (ev:LSt->Ex->Option (Rs (LSt×Nat))):LSt->List Ex->Option (Rs (LSt×List Nat))
 |st,[]=>some (.ok (st,[]))
 |st,e::r=>match ev st e with
  |none=>none
  |some (.error f)=>some (.error f)
  |some (.ok (s1,a))=>match gm ev s1 r with
   |none=>none
   |some (.error f)=>some (.error f)
   |some (.ok (s2,xs))=>some (.ok (s2,a::xs))
def eP:Nat->LSt->Loc->Ex->Option (Rs (LSt×Nat))
 |0,_,_,_=>none
 |_+1,st,_,.num t=>some (fZ st ⟨1,1,0,0,0,oB t.text⟩ t.pos)
 |_+1,st,loc,.name t=>some (match fD st loc t with|.error f=>.error f|.ok v=>.ok (st,v))
 |f+1,st,loc,.neg o e=>jJ (eP f st loc e) λs a=>some (fZ s (eL 6 (fg s a) (a:Int) 0 0) o.pos)
 |f+1,st,loc,.bin o a b=>jJ (eP f st loc a) λs1 x=>jJ (eP f s1 loc b) λs2 y=>some (qL s2 o x y)
 |f+1,st,loc,.call t es=>
  match i9 st.names t.text with
  |some (.fn _ ps body)=>
   if ps.length=es.length then
    match gm (λs e=>eP f s loc e) st es with
    |none=>none
    |some (.error e)=>some (.error e)
    |some (.ok (s1,xs))=>if 500<=s1.calls then some (.error (5,t.pos))else eP f {s1 with calls:=s1.calls+1} ((ps.map (·.text)).zip xs) body
   else some (.error (3,t.pos))
  |_=>some (.error (3,t.pos))
 |f+1,st,loc,.key1 k e=>jJ (eP f st loc e) λs a=>some (if k.sym=zd then fZ s (eL 13 (fg s a) (a:Int) 0 0) k.pos else fZ s (eL 9 1 (a:Int) 0 0) k.pos)
 |f+1,st,loc,.key2 k a b=>jJ (eP f st loc a) λs1 x=>jJ (eP f s1 loc b) λs2 y=>some (qM s2 k x y)
 |f+1,st,loc,.key3 k a b c=>jJ (eP f st loc a) λs1 x=>jJ (eP f s1 loc b) λs2 y=>jJ (eP f s2 loc c) λs3 z=>some (xU s3 k x y z)
 |f+1,st,loc,.keyN k e n=>jJ (eP f st loc e) λs a=>some (mj s k a n)
 |f+1,st,loc,.put k e i n=>jJ (eP f st loc e) λs a=>some (ml s k a i n)
 |f+1,st,loc,.grad k e x=>match fD st loc x with
  |.error q=>some (.error q)
  |.ok v=>jJ (eP f st loc e) λs a=>some (pE s k a v)
 |f+1,st,loc,.jvp k e x d=>match fD st loc x with
  |.error q=>some (.error q)
  |.ok v=>jJ (eP f st loc e) λs1 a=>jJ (eP f s1 loc d) λs2 y=>some (pP s2 k a v y)
end
section
open Go.RowKit Flt
attribute [local go_sem] eG eE eD
variable {w W' aG:World}{M':Nat->Prop}{P g off n:Nat}{ts:List Tok}
structure Mv (M:Nat->Prop)(W:World)(M':Nat->Prop)(W':World):Prop where
 chg:Chg M W W'
 new:∀b,M' b->M b\/W.heap.size<=b
theorem Mv.refl(M W):Mv M W M W:=⟨(Kept.refl 0 0 W).chg,λ_ h=>.inl h⟩
theorem Mv.keep{M W aD W2}(h:Mv M W M' aD)(k:Kept 0 0 aD W2):Mv M W M' W2:=
 ⟨⟨k.os.trans h.chg.os,k.tape.trans h.chg.tape,k.output.trans h.chg.output,yan h.chg.size k.size,λi hi hn=>(k.block i (yaj hi h.chg.size) xaa).trans (h.chg.block i hi hn)⟩,h.new⟩
theorem Mv.of{M W}(k:Kept 0 0 W W'):Mv M W M W':=(Mv.refl M W).keep k
theorem Mv.trans{M e W}(h:Mv M W M' W')(k:Mv M' W' e aG):Mv M W e aG where
 chg:=⟨k.chg.os.trans h.chg.os,k.chg.tape.trans h.chg.tape,k.chg.output.trans h.chg.output,yan h.chg.size k.chg.size,λi hi hn=>(k.chg.block i (yaj hi h.chg.size) (λc=>(h.new i c).elim hn (λc=>by omega))).trans (h.chg.block i hi hn)⟩
 new:=λb hb=>(k.new b hb).elim (h.new b) (λc=>.inr (yan h.chg.size c))
theorem Mv.bad{M W}(h:Mv M W M' W')(k:Chg M' W' aG):Chg M W aG:=
 ⟨k.os.trans h.chg.os,k.tape.trans h.chg.tape,k.output.trans h.chg.output,yan h.chg.size k.size,λi hi hn=>(k.block i (yaj hi h.chg.size) (λc=>(h.new i c).elim hn (λc=>by omega))).trans (h.chg.block i hi hn)⟩
structure TkR (M:Nat->Prop)(W:World)(a:Option Addr)(n:Nat)(ts:List Tok):Prop where
 len:ts.length=n
 at_:0<n->∃g off,a=some ⟨g,off,none⟩/\¬M g/\TkA W g off n ts
theorem TkA.keepC{J S}(h:TkA w g off n ts)(k:Chg S w J)(aV:¬S g):TkA J g off n ts:=
 ⟨h.len,yaj h.lt k.size,λj hj=>(k.cell (p:=⟨g,off+j*3,none⟩) h.lt aV).trans (h.c0 j hj),λj hj=>(k.cell (p:=⟨g,off+j*3+1,none⟩) h.lt aV).trans (h.c1 j hj),λj hj=>(k.cell (p:=⟨g,off+j*3+2,none⟩) h.lt aV).trans (h.c2 j hj)⟩
theorem TkR.mv{M W a}(h:TkR M W a n ts)(k:Mv M W M' W'):TkR M' W' a n ts:=
 ⟨h.len,λhn=>by
  obtain⟨g,off,e,B,R⟩:=h.at_ hn
  exact⟨g,_,e,λc=>(k.new g c).elim B (λc=>hR R.lt),R.keepC k.chg B⟩⟩
theorem tY(ts:List Tok)(i j k)(O:k<j-i):((ts.drop i).take (j-i)).getD k hN=ts.getD (i+k) hN:=by
 simp_all
theorem TkA.cut(h:TkA w g off n ts){i j}(hj:j<=n):TkA w g (off+i*3) (j-i) ((ts.drop i).take (j-i)):=by
 have ah:=h.len;refine⟨by grind,h.lt,λk O=>?_,λk O=>?_,λk O=>?_⟩
 ·rw[tY _ i j k O,show off+i*3+k*3=off+(i+k)*3 by omega];exact h.c0 _ xaa
 ·rw[tY _ i j k O,show off+i*3+k*3=off+(i+k)*3 by omega];exact h.c1 _ xaa
 rw[tY _ i j k O,show off+i*3+k*3=off+(i+k)*3 by omega];exact h.c2 _ xaa
structure Dgs (l:List UInt8):Prop where
 len:l.length<=15
 d:∀k,k<l.length->48<=bt l k/\bt l k<=57
def kP (x:List UInt8):Prop:=xo (ir x)/\(ir x).countP dig<=15
structure TsOK (ts:List Tok):Prop where
 n5:ts.length<=5000
 ti:∀t∈ts,t.sym=iK->Dgs t.text
 tn:∀t∈ts,(t.sym=iK\/t.sym=lg)->kP t.text
structure Bc where
 nm:List UInt8
 fn:Bool
 val:Int
 pa:Option Addr
 pn:Nat
 pc:Nat
 ba:Option Addr
 bn:Nat
 bc:Nat
def hO:Bc:=⟨[],false,0,none,0,0,none,0,0⟩
def Bc.cells (b:Bc):List Value:=[eN b.nm,.bool b.fn,.int .i64 b.val,.slice b.pa b.pn b.pc,.slice b.ba b.bn b.bc]
def bcF:List Bc->List Value
 |[]=>[]
 |b::r=>b.cells++bcF r
theorem xV(a b):bcF (a++b)=bcF a++bcF b:=by
 induction a<;>grind [bcF]
theorem xW(b):bcF [b]=b.cells:=by simp[bcF]
theorem GO:∀(a:List Bc) (k j:Nat),k<a.length->j<5->(bcF a)[k*5+j]? =(a.getD k hO).cells[j]?
 |x::r,0,j,_,hj=>by
  grind [bcF,Bc.cells]
 |x::r,k+1,j,O,hj=>by
  have au:x.cells.length=5:=rfl
  rw[bcF,yar xaa,au,show(k+1)*5+j-5=k*5+j by omega]
  exact GO r k j (by grind) hj
def BcOK (M:Nat->Prop)(W:World)(b:Bc):Bdg->Prop
 |.val nm v=>b.nm=nm/\b.fn=false/\b.val=(v:Int)
 |.fn nm ps e=>b.nm=nm/\b.fn=true/\TkR M W b.pa b.pn ps/\∃ts,Pr 2 [e] ts/\(TsOK ts/\b.bn<=b.bc)/\TkR M W b.ba b.bn ts
theorem BcOK.mv{M W b d}(h:BcOK M W b d)(k:Mv M W M' W'):BcOK M' W' b d:=by
 cases d with
 |val aQ v=>exact h
 |fn aQ aS e=>
  obtain⟨B,R,h3,ts,a8,bQ,bV⟩:=h;exact⟨B,R,h3.mv k,_,a8,bQ,bV.mv k⟩
def Mst (P:Nat)(u1 u2 u3 u4:Value)(b:Nat):Prop:=b=P\/u1.ownBlock=some b\/u2.ownBlock=some b\/u3.ownBlock=some b\/u4.ownBlock=some b
structure WS (W:World)(P B:Nat)(u1 u2 u3 u4:Value)(bs:List Bc)(st:LSt):Prop where
 lt:P<W.heap.size
 fr:∀o,W.frozen? ⟨P,o,none⟩=false
 c0:W.cell? ⟨P,0,none⟩=some u1
 c1:W.cell? ⟨P,1,none⟩=some u2
 c2:W.cell? ⟨P,2,none⟩=some u3
 c3:W.cell? ⟨P,3,none⟩=some u4
 c4:W.cell? ⟨P,4,none⟩=some (.int .i64 (st.calls:Int))
 c5:W.cell? ⟨P,5,none⟩=some (.int .i64 0)
 c6:W.cell? ⟨P,6,none⟩=some (.int .i64 0)
 r1:W.ownsRow B 3 1 u1 st.ins.length (st.ins.map (Value.int .i64))
 r2:W.ownsRow B 53 6 u2 st.vs.length (fQ st.vs)
 r3:W.ownsRow B 3 1 u3 st.outs.length (st.outs.map (Value.int .i64))
 r4:W.ownsRow B 123 5 u4 bs.length (bcF bs)
 np:u1.ownBlock≠some P/\u2.ownBlock≠some P/\u3.ownBlock≠some P/\u4.ownBlock≠some P
 ap:Apart u1 u2/\Apart u1 u3/\Apart u1 u4/\Apart u2 u3/\Apart u2 u4/\Apart u3 u4
 nl:bs.length=st.names.length
 nb:∀i,i<bs.length->BcOK (Mst P u1 u2 u3 u4) W (bs.getD i hO) (st.names.getD i (.val [] 0))
 sz:B<=P
theorem Apart.symm{u v}(h:Apart u v):Apart v u:=λk O aJ=>h k aJ O
theorem WS.keep{W I am al ar X bs st}(h:WS W P I am al ar X bs st)(k:Kept 0 0 W W'):WS W' P I am al ar X bs st:=by
 have e:∀o,_:=λo=>k.cell (p:=⟨P,o,none⟩) h.lt xaa;exact⟨yaj h.lt k.size,λo=>(k.frozen h.lt xaa).trans (h.fr o),(e 0).trans h.c0,(e 1).trans h.c1,(e 2).trans h.c2,(e 3).trans h.c3,(e 4).trans h.c4,(e 5).trans h.c5,(e 6).trans h.c6,e8 h.r1 k,e8 h.r2 k,e8 h.r3 k,e8 h.r4 k,h.np,h.ap,h.nl,λi hi=>(h.nb i hi).mv (Mv.of k),h.sz⟩
def TrO (W:World)(P B:Nat)(u1 u2 u3 u4:Value)(bs:List Bc)(r:Rs (LSt×Nat))(e:Ending)(W':World):Prop:=
 match r with
 |.error (c,p)=>e=.returned (.int .i64 (-1))/\W'.cell? ⟨P,5,none⟩=some (.int .i64 c)/\W'.cell? ⟨P,6,none⟩=some (.int .i64 (p:Int))/\Chg (Mst P u1 u2 u3 u4) W W'
 |.ok (st,v)=>e=.returned (.int .i64 (v:Int))/\∃v1 v2 v3 v4,WS W' P B v1 v2 v3 v4 bs st/\Mv (Mst P u1 u2 u3 u4) W (Mst P v1 v2 v3 v4) W'
structure Bad (W:World)(P:Nat)(M:Nat->Prop)(c:Int)(p:Nat)(W':World):Prop where
 c5:W'.cell? ⟨P,5,none⟩=some (.int .i64 c)
 c6:W'.cell? ⟨P,6,none⟩=some (.int .i64 (p:Int))
 chg:Chg M W W'
theorem jK{W}(bQ:W.cell? ⟨P,5,none⟩=some (hI 0))(bV:W.cell? ⟨P,6,none⟩=some (hI 0))(fr:∀o,W.frozen? ⟨P,o,none⟩=false)(c)(p:Nat)(M)(C:M P):
  Calls prog 92 #[hG P,hI c,hI p] W λe W'=>e=.returned (hI (-1))/\Bad W P M c p W':=by
 have q:=fr 5;have G:=fr 6;have R1:V (((W.setCell _ _).setCell ⟨P,6,_⟩ (hI p)).cell? _=some (hI c)):=(eO _ _ _ _ _ _ (.inr xaa)).trans (fJ _ _ _ _ _ bQ);have R2:V (((W.setCell ⟨P,5,_⟩ (hI c)).setCell _ (hI p)).cell? _=some _):=fJ _ _ _ _ _ ((eO _ _ _ _ _ _ (.inr xaa)).trans bV);have R3:V _:=Chg.andThen ((eX W ⟨P,5,none⟩ (hI c) yac).chg1 C) ((eX _ ⟨P,6,none⟩ (hI p) yac).chg1 C);clear fr C;go_enter func92,ntmps92;go_wp2;go_ret;exact⟨rfl,R1.o,R2.o,R3.o⟩
end
section
open Go.RowKit Flt Ieee
variable {x:List UInt8}
theorem Kv(s f e):∃r,double.nearest s f e=W s r/\r<=9218868437227405312:=by
 unfold Ieee.Format.nearest;by_cases h:f=0
 ·rw[hK h,oK];grind
 rw[hJ h];simp only[oK,sP];exact⟨_,rfl,Nat.min_le_right _ _⟩
theorem zM(neg n e):Ieee.Toward.cut .even neg n e<=n+1:=by
 unfold Ieee.Toward.cut;simp only;exact Nat.add_le_add (Nat.div_le_self _ _) (Bool.toNat_le _)
theorem tZ(f)(h:f<=10000000000000000):∃r,double.nearest false f 0=W false r/\r<9218868437227405312/\(0<f->0<r):=by
 unfold Ieee.Format.nearest;by_cases aj:f=0
 ·rw[hK aj,oK];grind
 rw[hJ aj];simp only[oK,sP,oJ,pY,vZ]
 have bO:f.log2<=53:=by
  have:=(Nat.log2_lt aj).2 (show f<2 ^ 54 by omega);omega
 have az:f<2 ^ (f.log2+1):=Nat.lt_log2_self;generalize f.log2=L at*;have ah:max ((0:Int)+L-(52:Nat)) (-1074)=L-52:=xaa;rw[ah]
 have hn:f<<<(0-((L:Int)-52)).toNat<=10000000000000000:=by
  rw[Nat.shiftLeft_eq];by_cases c:L<=52
  ·have e:(0-((L:Int)-52)).toNat=52-L:=xaa;rw[e];have B:f*2 ^ (52-L)<=2 ^ (L+1)*2 ^ (52-L):=Nat.mul_le_mul_right _ (Nat.le_of_lt az);rw[<-Nat.pow_add,show L+1+(52-L)=53 by omega]at B;omega
  grind
 have O:=zM false (f<<<(0-((L:Int)-52)).toNat) ((L:Int)-52-0).toNat;generalize Ieee.Toward.cut _ _ _ _=K at*;have hi:((L:Int)-52- -1074).toNat=L+1022:=xaa;rw[hi];refine⟨_,rfl,?_,λ_=>?_⟩<;>omega
theorem GP{s r}(h:r<=9218868437227405312):(double.read (W s r)).isNaN=false:=by
 rcases Nat.lt_or_eq_of_le h with h|rfl
 ·rw[gW h];rfl
 rw[kJ];rfl
theorem Kw{n d}(aj:0<=n)(B:n<=10000000000000000)(R:1<=d)(h3:d<=10000000000000000):(f64.read (cop .quo (floatOfInt .f64 n) (floatOfInt .f64 d))).isNaN=false:=by
 obtain⟨r,ae,ay,_⟩:=tZ n.natAbs xaa;obtain⟨q,a9,aq,ba⟩:=tZ d.natAbs xaa
 have f1:floatOfInt .f64 n=W false r:=by
  rw[<-ae];show double.nearest (decide (n<0)) n.natAbs 0=_;grind
 have f2:floatOfInt .f64 d=W false q:=by
  rw[<-a9];show double.nearest (decide (d<0)) d.natAbs 0=_;grind
 rw[f1,f2];have C:=Ly (ba xaa);have e:floatBits .quo .f64 _ _=((double.read (W false r)).quotient (double.fractionBits+2) (double.read (W false q))).map double.write:=rfl;unfold cop;rw[e,gW ay,gW aq];simp only[Ieee.Datum.quotient,hJ (show ¬M q=0 by omega),Option.map_some,Option.getD_some,Ieee.Format.write];obtain⟨z,ak,bp⟩:=Kv (false ^^ false) (2*((M r<<<(double.fractionBits+2+(M q).log2-(M r).log2))/M q)+((M r<<<(double.fractionBits+2+(M q).log2-(M r).log2))%M q !=0).toNat) (-1074+(E r:Nat)-(-1074+(E q:Nat))-(double.fractionBits+2+(M q).log2-(M r).log2:Nat)-1);rw[ak];exact GP bp
theorem Kx(h:kP x):(f64.read (oB x)).isNaN=false:=by
 obtain⟨⟨p,aK⟩,aV⟩:=h;obtain⟨B,R,h3,a8⟩:=vg _ aK.digit _ yad (aK.short aV);rw[yao yad]at B R h3 a8;exact Kw B R h3 a8
theorem rE(h:kP x){f c}(k:RN (ir x) f c):f=oB x/\c=0:=by
 rcases k with⟨B,_⟩|⟨_,R,_⟩|⟨_,_,_,a8,bQ⟩
 ·exact absurd h.1 B
 ·have:=h.2;omega
 refine⟨?_,bQ⟩;rcases mK a8 with e|⟨_,e⟩<;>grind [Kx,oB]
end
section
open Go.RowKit Flt
theorem mX(w e s):Kept 0 0 w (Lib.bytesWorld w e s):=
 ⟨rfl,rfl,rfl,hW Lib.bytesWorld_size,λk O _=>Lib.bytesWorld_at_old w e s k O⟩
theorem qN(w e t):YS (Lib.bytesWorld w e ⟨t.toArray⟩) (some ⟨w.heap.size,0,none⟩) t.length (ir t) where
 len:=by unfold ir;rw[List.length_map]
 lt:=λx au=>by
  unfold ir at au
  obtain⟨b,_,rfl⟩:=List.mem_map.1 au
  have:=b.toNat_lt
  omega
 at_:=.inr ⟨w.heap.size,0,rfl,hW Lib.bytesWorld_size,λk O=>by
  rw[Nat.zero_add,Lib.bytesWorld_cell w e ⟨t.toArray⟩ k O,rn t k O]
  rfl⟩
theorem sM{x}(h:kP x):x.length<=16:=by
 obtain⟨⟨p,aK⟩,aV⟩:=h;have:=aK.short aV;unfold ir at this;rwa [List.length_map]at this
theorem Cb(x):oB x<18446744073709551616:=ow _ _ _
end
section
open Go.RowKit Flt
attribute [local go_sem] eG eE eD
variable {x y:List UInt8}{P I cap:Nat}{ts:List Tok}{a:Option Addr}{v am al ar X:Value}{vs:List Vl}{bs:List Bc}{st:LSt}
theorem mn{W:World}(f:W.ownsRow I 123 5 v bs.length (bcF bs))(h:0<bs.length):∃g cap,v=hH g bs.length cap/\I<=g/\g<W.heap.size/\bs.length<=cap/\
  ∀k,k<bs.length->W.cell? ⟨g,k*5,none⟩=some (eN (bs.getD k hO).nm)/\W.cell? ⟨g,k*5+1,none⟩=some (.bool (bs.getD k hO).fn)/\W.cell? ⟨g,k*5+2,none⟩=some (hI (bs.getD k hO).val)/\W.cell? ⟨g,k*5+3,none⟩=some (.slice (bs.getD k hO).pa (bs.getD k hO).pn (bs.getD k hO).pc)/\W.cell? ⟨g,k*5+4,none⟩=some (.slice (bs.getD k hO).ba (bs.getD k hO).bn (bs.getD k hO).bc):=by
 rcases f.2 with⟨_,c⟩|⟨g,cap,H,rfl,N,aA,ab,_,b9,cn⟩
 ·omega
 have aW:g<W.heap.size:=by grind
 have aw:∀k j,k<bs.length->j<5->W.cell? _=(bs.getD k _).cells[j]?:=λk j O hj=>by
  rw[cell_of_row W g _ _ _ _ aA,<-Array.getElem?_toList]
  have:(H.toList.take (bs.length*5))[k*5+j]? =(bcF bs)[k*5+j]?:=by rw[cn]
  rw[List.getElem?_take_of_lt xaa]at this
  rw[this]
  exact GO _ k j O hj
 exact⟨g,_,rfl,N,aW,ab,λk O=>⟨aw k 0 O xaa,aw k 1 O xaa,aw k 2 O xaa,aw k 3 O xaa,aw k 4 O xaa⟩⟩
theorem jM{W:World}(f:W.ownsRow I 123 5 v bs.length (bcF bs)):∃a cap,v=.slice a bs.length cap:=by
 rcases f.2 with⟨e,c⟩|⟨g,cap,H,e,_⟩<;>grind
def Po (bs:List Bc)(s:List UInt8)(r:Int):Prop:=(∃k:Nat,k<bs.length/\r=(k:Int)/\(bs.getD k hO).nm=s/\∀j,j<k->(bs.getD j hO).nm≠s)\/(r=-1/\∀j,j<bs.length->(bs.getD j hO).nm≠s)
theorem rF{W}(c3:W.cell? ⟨P,3,none⟩=some X)(f:W.ownsRow I 123 5 X bs.length (bcF bs))(ah:bs.length<=100000)(s):
  Calls prog 94 #[hG P,eN s] W λe W'=>∃r,e=.returned (hI r)/\Po bs s r/\W'=W:=by
 have bf:V _:=mn f;obtain⟨a,cap,rfl⟩:=jM f;clear f;generalize hn:bs.length=n at ah c3 bf;have bD:V _:=hn;clear hn;go_enter func94,ntmps94;go_wp2_with fail;go_loopw [5] (λaL W'=>W'=W/\∃k:Nat,k<=n/\aL=hI k/\V (∀j,j<k->(bs.getD j hO).nm≠s)) (λaL _=>n-(intOf aL).toNat)
 case atStart=>exact⟨rfl,0,Nat.zero_le _,rfl,λj hj=>by omega⟩
 case round=>
  obtain⟨rfl,k,O,rfl,aH⟩:=hrel;by_cases aF:k<n
  ·obtain⟨g,bR,e,_,_,_,bV⟩:=bf.o xaa;cases e;have c1:=(bV k aF).1;have HK:V (∀x,(bs.getD k hO).nm=x->x=s->_):=λx B R=>B.trans R;generalize au:(bs.getD k _).nm=x at c1;have bv:V _:=au;clear au bV;cases aq:(x==s)
   ·have aa:V (∀j,j<k+1->(bs.getD j _).nm≠s):=λj hj=>by
     by_cases c:j=k
     ·subst c;rw[bv.o];grind
     ·exact aH.o j xaa
    go_wp2_with fail;exact xdf
   have aa:V ((bs.getD k hO).nm=s):=by grind
   go_wp2_with fail;go_ret;exact⟨_,rfl,.inl ⟨k,hU bD.o aF,rfl,aa.o,aH.o⟩,rfl⟩
  obtain rfl:k=n:=xaa;go_wp2_with fail;go_ret;exact⟨_,rfl,.inr ⟨rfl,hU bD.o aH.o⟩,rfl⟩
theorem GQ(s w):Calls prog 124 #[eN s] w λe J=>e=.returned (hI (qK s))/\J=w:=by
 unfold qK;by_cases aj:s=[43]
 ·rw[hK aj];have bj:(s==[43])=true:=by grind
  clear aj;exact xfz
 rw[hJ aj];have bj:=yaw aj;by_cases B:s=[45]
 ·rw[hK B];have aQ:(s==[45])=true:=by grind
  clear aj B;exact xfz
 rw[hJ B];have aQ:=yaw B;by_cases R:s=[42]
 ·rw[hK R];have a6:(s==[42])=true:=by grind
  exact xju
 rw[hJ R];have a6:=yaw R;exact xju
theorem ud(x y q)(ts:List Tok)(k)(h:k<ts.length):jI x y q (ts.take (k+1))=iO x y (jI x y q (ts.take k)) (ts.getD k hN):=by
 rw[yat h,fy,yah,yal h];rfl
theorem Pp(x y):∀(ts:List Tok) (q:OpS),(jI x y q ts).i=q.i+ts.length
 |[],q=>rfl
 |t::ts,q=>by
  rw[eH,Pp x y _,yap]
  grind [iO]
theorem Pq(x y):∀(ts:List Tok) (q:OpS),q.d-ts.length<=(jI x y q ts).d/\(jI x y q ts).d<=q.d+ts.length
 |[],q=>by rw[fO];simp
 |t::ts,q=>by
  rw[eH,yap]
  have B:=Pq x y ts (iO x y q t)
  grind [iO]
theorem P6(x y q t):(iO x y q t).b=ja t.sym:=by unfold iO;grind
def opQ (x y:List UInt8)(ts:List Tok)(k:Nat):OpS:=jI x y ⟨0,0,-1,false⟩ (ts.take k)
theorem Ps{k}(h:k<=ts.length):(opQ x y ts k).i=k:=by
 unfold opQ;rw[Pp,List.length_take];show 0+_=_;omega
theorem Pt{k}(h:k<ts.length):(opQ x y ts (k+1)).b=ja (ts.getD k hN).sym:=by
 unfold opQ;rw[ud x y _ _ k h,P6]
theorem GR{k}(h:k<ts.length):opQ x y ts (k+1)=iO x y (opQ x y ts k) (ts.getD k hN):=ud x y _ ts k h
theorem NL{k:Nat}:-((k:Int))<=(opQ x y ts k).d/\(opQ x y ts k).d<=k:=by
 have h:=Pq x y (ts.take k) ⟨0,0,-1,false⟩;have R:(ts.take k).length<=k:=by rw[List.length_take];omega
 unfold opQ;simp only at h;omega
theorem fS(W g off m cap ts)(f:TkA W g off m ts)(az:m<=5000)(x y):
  Calls prog 122 #[.slice (some ⟨g,off,none⟩) m cap,eN x,eN y] W λe W'=>e=.returned (hI (opM x y ts))/\W'=W:=by
 have aP:V _:=f;have HL:V _:=f.len;have HE:V (opM x y ts=(opQ x y ts m).at_):=by show _=_;unfold opM opQ;rw[<-f.len,List.take_length]
 clear f;rw[HE.o];go_enter func122,ntmps122;go_wp2_with fail;go_loopw [7,8,9] (λS bT aL W'=>W'=W/\∃k:Nat,k<=m/\aL=hI k/\S=hI (opQ x y ts k).d/\bT=hI (opQ x y ts k).at_) (λ_ _ aL _=>m-(intOf aL).toNat)
 case atStart=>exact⟨rfl,0,Nat.zero_le _,rfl,rfl,rfl⟩
 case round=>
  obtain⟨rfl,k,O,rfl,rfl,rfl⟩:=hrel;by_cases aF:k<m
  ·have t:k<ts.length:=by rw[HL.o];exact aF
   have c0:=aP.o.c0 k aF;have aw:V _:=GR (x:=x) (y:=y) t;have au:=NL (x:=x) (y:=y) (ts:=ts) (k:=k);have hi:=Ps (x:=x) (y:=y) (ts:=ts) (k:=k) xaa;have o:V (k=0->(opQ x y ts k).b=false):=λh=>by subst h;rfl
   have aq:V (∀q,k=q+1->(opQ x y _ k).b=ja (ts.getD q _).sym):=λq h=>by subst h;exact Pt xaa
   have av:V (∀q,k=q+1->_):=λq h=>aP.o.c0 q xaa;generalize opQ x y _ k=Q at aw au hi o aq⊢;generalize ts.getD k _=K at c0 aw;obtain⟨j,d,a,b⟩:=Q;simp only at au hi aw o aq⊢;subst hi;by_cases B:K.sym=[40]
   ·have aa:V (opQ x y _ _=⟨j+1,d+1,a,_⟩):=aw.o.trans (xv B);have aQ:(K.sym==[40])=true:=by rw[B];rfl
    have aZ:IntKind.i64.wrap (d+1)=d+1:=by rw[IntKind.wrap_i64];omega
    generalize K.sym=s at c0 aQ;clear B aw o aq av t;exact xey
   by_cases R:K.sym=[41]
   ·have aa:V (opQ x y _ _=⟨j+1,d-1,a,_⟩):=aw.o.trans (xw R);have aQ:=yaw B;have a6:(K.sym==[41])=true:=by rw[R];rfl
    have aZ:IntKind.i64.wrap (d-1)=d-1:=by rw[IntKind.wrap_i64];omega
    generalize K.sym=s at c0 aQ a6;clear B R aw o aq av t;exact xey
   have aQ:=yaw B;have a6:=yaw R;have HO:V (¬(d=0/\b=true/\(K.sym=x\/K.sym=y))->opQ x y _ _=⟨j+1,d,a,_⟩):=λh=>aw.o.trans (mT B R h);have u:V ((d=0/\b=true/\(K.sym=x\/K.sym=y))->opQ x y _ _=⟨j+1,d,j,_⟩):=λh=>aw.o.trans (xy B R h);clear aw B R;generalize ja _=cf at HO u;generalize K.sym=s at c0 aQ a6 HO u;by_cases aV:d=0
   ·subst aV;cases j with
    |zero=>
     have aa:V _:=HO.o (λc=>by have:=o.o rfl;rw[this]at c;exact absurd c.2.1 xac);clear o aq av t HO u;rw[Nat.zero_mul,Nat.add_zero]at c0;go_wp2_with fail;go_roundw
     case rel=>exact⟨trivial,0+1,by omega,by go_num,by rw[aa.o],by rw[aa.o]⟩
     case measure=>simp[intOf];omega
    |succ q=>
     have hb:=aq.o q rfl;have c1:=av.o q rfl;generalize (ts.getD q _).sym=aS at hb c1;have n:V _:=hb;clear hb o aq av t;have aZ:IntKind.i64.wrap ((q+1:Nat)-1)=q:=by rw[IntKind.wrap_i64];omega
     have be:(0:Int)<(q:Nat)+1:=xaa;cases bp:(s==x)
     ·have r:s≠x:=λc=>by rw[c]at bp;simp at bp
      cases p:(s==y)
      ·have l:s≠y:=λc=>by rw[c]at p;simp at p
       have aa:V _:=HO.o (λc=>c.2.2.elim r l);clear r l HO u c1;go_wp2_with fail;go_roundw
       case rel=>exact⟨trivial,q+1+1,by omega,by go_num,by rw[aa.o],by rw[aa.o]⟩
       case measure=>simp[intOf];omega
      have w:s=y:=by simpa using p
      have ai:V (ja _=false->_):=λh=>HO.o (λc=>by rw[n.o,h]at c;exact absurd c.2.1 xac);have i:V _:=λh=>u.o ⟨rfl,n.o.trans h,.inr w⟩;clear r w HO u n;cases bk:(aS==[110,97,109,101])
      case true=>
       have aa:V _:=i.o (by show ja aS=_;unfold ja gS iK lg;rw[bk];rfl);clear ai i;go_wp2_with fail;go_roundw
       case rel=>exact⟨trivial,q+1+1,by omega,by go_num,by rw[aa.o],by rw[aa.o]⟩
       case measure=>simp[intOf];omega
      case false=>
       cases a8:(aS==[105,110,116])
       case true=>
        have aa:V _:=i.o (by show ja aS=_;unfold ja gS iK lg;rw[bk,a8];rfl);clear ai i;go_wp2_with fail;go_roundw
        case rel=>exact⟨trivial,q+1+1,by omega,by go_num,by rw[aa.o],by rw[aa.o]⟩
        case measure=>simp[intOf];omega
       case false=>
        cases p2:(aS==[100,101,99])
        case true=>
         have aa:V _:=i.o (by show ja aS=_;unfold ja gS iK lg;rw[bk,a8,p2];rfl);clear ai i;go_wp2_with fail;go_roundw
         case rel=>exact⟨trivial,q+1+1,by omega,by go_num,by rw[aa.o],by rw[aa.o]⟩
         case measure=>simp[intOf];omega
        case false=>
         cases z:(aS==[41])
         case true=>
          have aa:V _:=i.o (by show ja aS=_;unfold ja gS iK lg;rw[bk,a8,p2,z];rfl);clear ai i;go_wp2_with fail;go_roundw
          case rel=>exact⟨trivial,q+1+1,by omega,by go_num,by rw[aa.o],by rw[aa.o]⟩
          case measure=>simp[intOf];omega
         case false=>
          have aa:V _:=ai.o (by show ja aS=_;unfold ja gS iK lg;rw[bk,a8,p2,z];rfl);clear ai i;go_wp2_with fail;go_roundw
          case rel=>exact⟨trivial,q+1+1,by omega,by go_num,by rw[aa.o],by rw[aa.o]⟩
          case measure=>simp[intOf];omega
     have dv:s=x:=by simpa using bp
     have ai:V (ja _=false->_):=λh=>HO.o (λc=>by rw[n.o,h]at c;exact absurd c.2.1 xac);have i:V _:=λh=>u.o ⟨rfl,n.o.trans h,.inl dv⟩;clear dv HO u n;cases bk:(aS==[110,97,109,101])
     case true=>
      have aa:V _:=i.o (by show ja aS=_;unfold ja gS iK lg;rw[bk];rfl);clear ai i;go_wp2_with fail;go_roundw
      case rel=>exact⟨trivial,q+1+1,by omega,by go_num,by rw[aa.o],by rw[aa.o]⟩
      case measure=>simp[intOf];omega
     case false=>
      cases a8:(aS==[105,110,116])
      case true=>
       have aa:V _:=i.o (by show ja aS=_;unfold ja gS iK lg;rw[bk,a8];rfl);clear ai i;go_wp2_with fail;go_roundw
       case rel=>exact⟨trivial,q+1+1,by omega,by go_num,by rw[aa.o],by rw[aa.o]⟩
       case measure=>simp[intOf];omega
      case false=>
       cases p2:(aS==[100,101,99])
       case true=>
        have aa:V _:=i.o (by show ja aS=_;unfold ja gS iK lg;rw[bk,a8,p2];rfl);clear ai i;go_wp2_with fail;go_roundw
        case rel=>exact⟨trivial,q+1+1,by omega,by go_num,by rw[aa.o],by rw[aa.o]⟩
        case measure=>simp[intOf];omega
       case false=>
        cases z:(aS==[41])
        case true=>
         have aa:V _:=i.o (by show ja aS=_;unfold ja gS iK lg;rw[bk,a8,p2,z];rfl);clear ai i;go_wp2_with fail;go_roundw
         case rel=>exact⟨trivial,q+1+1,by omega,by go_num,by rw[aa.o],by rw[aa.o]⟩
         case measure=>simp[intOf];omega
        case false=>
         have aa:V _:=ai.o (by show ja aS=_;unfold ja gS iK lg;rw[bk,a8,p2,z];rfl);clear ai i;go_wp2_with fail;go_roundw
         case rel=>exact⟨trivial,q+1+1,by omega,by go_num,by rw[aa.o],by rw[aa.o]⟩
         case measure=>simp[intOf];omega
   have aa:V _:=HO.o (λc=>aV c.1);have hd0:=yaw aV;clear o aq av t HO u aV;exact xey
  obtain rfl:k=m:=xaa;go_wp2_with fail;go_ret;exact⟨rfl,rfl⟩
theorem Pu(l k h):(((⟨l.toArray⟩:ByteArray)[k]'h).toNat:Int)=bt l k:=by
 have O:k<l.length:=by rw[<-gl];exact h
 unfold bt;rw[yah,yal O];rfl
theorem vD(l k)(h:k<l.length):iH (l.take (k+1))=iH (l.take k)*10+(bt l k-48):=by
 unfold iH;rw[yat h,List.foldl_append];unfold bt;simp_all
theorem vE{l}(h:Dgs l):∀k,k<=l.length->0<=iH (l.take k)/\iH (l.take k)<10 ^ k
 |0,_=>by rw[List.take_zero];exact⟨by decide,by decide⟩
 |k+1,O=>by
  have ag:=vE h k xaa
  have aV:=h.d k xaa
  rw[vD l k xaa,Int.pow_succ]
  omega
theorem Pv:∀k:Nat,k<=15->(10:Int) ^ k<=1000000000000000:=by
 intro k O;have:∀k:Fin 16,(10:Int) ^ k.1<=1000000000000000:=xab;exact this ⟨k,by omega⟩
theorem pQ{l}(h:Dgs l){k}(O:k<=l.length):0<=iH (l.take k)/\iH (l.take k)<1000000000000000:=by
 have B:=vE h k O;have R:=Pv k (hR h.len);omega
theorem zN(t)(h:Dgs t.text)(W):Calls prog 95 #[jb t] W λe W'=>e=.returned (hI (iH t.text))/\Kept 0 0 W W':=by
 obtain⟨a0,aS,l⟩:=t;simp only at h⊢;unfold jb;simp only;have HD:V _:=h;have ah:=h.len;have aI:V _:=it W a0 aS l;have HK:V _:=ez 0 0 W (.cells #[eN a0,hI aS,eN l] 84);have ad:=gl l;clear h;go_enter func95,ntmps95;go_wp2_with fail;change Code.wp _ _ _ _ (W.alloc (.cells _ 84));generalize W.alloc _=aD at aI HK⊢;have aY:=aI.o.c2;go_loopw [3,4] (λv aL W'=>W'=aD/\∃k:Nat,k<=l.length/\aL=hI k/\v=hI (iH (l.take k))) (λ_ aL _=>l.length-(intOf aL).toNat)
 case atStart=>exact⟨rfl,0,Nat.zero_le _,rfl,rfl⟩
 case round=>
  obtain⟨rfl,k,O,rfl,rfl⟩:=hrel;by_cases aF:k<l.length
  ·have bV:=Pu l k;have aV:=HD.o.d k aF;have hb:=pQ HD.o O;have aa:V _:=vD l k aF;generalize bt l k=x at bV aV aa;generalize iH _=v at hb aa⊢;have aZ:IntKind.i64.wrap (v*10)=v*10:=by rw[IntKind.wrap_i64];omega
   have be:IntKind.u8.wrap (x-48)=x-48:=by grind [IntKind.wrap,IntKind.bits]
   have bz:IntKind.i64.wrap (v*10+(x-48))=v*10+(x-48):=by rw[IntKind.wrap_i64];omega
   have bE:IntKind.i64.wrap (x-48)=x-48:=by rw[IntKind.wrap_i64];omega
   have bl:(k:Int)<l.length:=xaa;go_wp2_with fail;go_roundw
   case rel=>exact⟨trivial,k+1,by omega,by go_num,by rw[aa.o]⟩
   case measure=>simp[intOf];omega
  obtain rfl:k=l.length:=xaa;have bl:¬((l.length:Int)<l.length):=xaa;go_wp2_with fail;go_ret;exact⟨rfl,HK.o⟩
theorem bH.qbu(h:Zp:=by
 have q:g9≠P:=λe=>by
  subst e
  rcases bg with c|c
  ·exact p2 c
  ·have:=h.lt;omega
 have U:(Value.slice _ _ _).ownBlock≠some P:=λc=>q ((ab P).1 c);have aQ:∀o,_:=λo=>ah.cell (p:=⟨P,o,none⟩) h.lt p2;have es:∀o,o≠1->(bo.setCell ⟨P,1,_⟩ (hH g9 n9 cap9)).cell? _=W.cell? _:=λo av=>(eO _ _ _ _ _ _ (.inr (λe=>av e.symm))).trans (aQ o);have ay:=(eX (lo:=P) (hi:=P+1) bo ⟨P,1,none⟩ (hH g9 n9 cap9) yac)
 have aP:Mv (Mst P am al ar X) W (Mst P am (hH g9 n9 cap9) ar X) (bo.setCell ⟨P,1,none⟩ (hH g9 n9 cap9)):=by
  refine⟨Chg.andThen ⟨ah.os,ah.tape,ah.output,ah.size,λi hi hn=>ah.block i hi (λc=>hn (.inr (.inr (.inl c))))⟩ (ay.chg1 (.inl rfl)),λb hb=>?_⟩;rcases hb with c|c|c|c|c
  ·exact .inl (.inl c)
  ·exact .inl (.inr (.inl c))
  ·rw[ab]at c;subst c;rcases bg with d|d
   ·exact .inl (.inr (.inr (.inl d)))
   omega
  ·exact .inl (.inr (.inr (.inr (.inl c))))
  exact .inl (.inr (.inr (.inr (.inr c))))
 exact qep):Zp:=h
theorem bH.qeq(h:Zp:=by
 refine⟨⟨by simpa using yaj h.lt ah.size,λo=>?_,(es 0 xab).trans h.c0,fJ _ _ _ _ _ ((aQ 1).trans h.c1),(es 2 xab).trans h.c2,(es 3 xab).trans h.c3,(es 4 xab).trans h.c4,(es 5 xab).trans h.c5,(es 6 xab).trans h.c6,?_,?_,?_,?_,⟨a8,U,z,l⟩,⟨bK h.r1 S,C,g,(bK h.r3 au.symm).symm,(bK h.r4 m.symm).symm,p⟩,h.nl,λi hi=>(h.nb i hi).mv aP,h.sz⟩,aP⟩
 ·have:=(ah.frozen h.lt p2).trans (h.fr o);simp[this]
 ·exact eJ (fN h.r1 ah (λb hb c=>S b hb c)) a8
 ·subst hn;exact eJ aT U
 ·exact eJ (fN h.r3 ah (λb hb c=>au b c hb)) z
 exact eJ (fN h.r4 ah (λb hb c=>m b c hb)) l):Zp:=h
open bH in
theorem WS.vals{W bo}(h:WS W P I am al ar X bs st)(ah:Chg (λb=>al.ownBlock=some b) W bo){g9 n9 cap9}(hn:n9=vs.length)(aT:bo.ownsRow I 53 6 (hH g9 n9 cap9) n9 (fQ vs))(bg:al.ownBlock=some g9\/W.heap.size<=g9):
  WS (bo.setCell ⟨P,1,none⟩ (hH g9 n9 cap9)) P I am (hH g9 n9 cap9) ar X bs {st with vs:=vs}/\Mv (Mst P am al ar X) W (Mst P am (hH g9 n9 cap9) ar X) (bo.setCell ⟨P,1,none⟩ (hH g9 n9 cap9)):=by
 exact qbt
theorem ju{W:World}{e s n:Nat}{xs}(f:W.ownsRow I e s v n xs):∃a cap,v=.slice a n cap:=by
 rcases f.2 with⟨e,c⟩|⟨g,cap,H,e,_⟩<;>grind
theorem xX{W n xs}(f:W.ownsRow I 3 1 (.slice a n cap) n (xs.map (Value.int .i64)))(ah:xs.length=n):IS W 0 W.heap.size a n xs:=by
 refine⟨ah,?_⟩;rcases f.2 with⟨_,c⟩|⟨g,c,H,e,N,aA,ab,_,b9,cn⟩
 ·exact .inl c
 cases e;have aW:g<W.heap.size:=by grind
 refine .inr ⟨g,0,rfl,Nat.zero_le _,aW,aW,λk O=>?_⟩;rw[Nat.zero_add,cell_of_row W g _ _ _ _ aA,<-Array.getElem?_toList];exact xjy
theorem GT{W n}(f:W.ownsRow I 53 6 (.slice a n cap) n (fQ vs))(ah:vs.length=n)(O:∀v∈vs,v.k<18446744073709551616):VS W 0 W.heap.size a n vs:=by
 by_cases aj:n=0
 ·exact⟨ah,O,.inl aj⟩
 obtain⟨g,c,e,N,aA,_,aI⟩:=ng f xaa ah;cases e;exact aI.vs O
theorem WS.gs{W}(h:WS W P I am al ar X bs st)(O:∀v∈st.vs,v.k<18446744073709551616):∃a1 c1 a2 c2 a3 c3,am=.slice a1 st.ins.length c1/\al=.slice a2 st.vs.length c2/\ar=.slice a3 st.outs.length c3/\GS W a1 st.ins.length a2 st.vs.length a3 st.outs.length st.ins st.vs st.outs:=by
 obtain⟨a1,c1,ae⟩:=ju h.r1;obtain⟨a2,c2,a9⟩:=ju h.r2;obtain⟨a3,c3,ak⟩:=ju h.r3;refine⟨_,_,_,_,_,_,ae,a9,ak,⟨xX (by have:=h.r1;rw[ae]at this;exact this) rfl,GT (by have:=h.r2;rw[a9]at this;exact this) rfl O,xX (by have:=h.r3;rw[ak]at this;exact this) rfl⟩⟩
structure Gd (st:LSt):Prop where
 n:st.vs.length<=2000
 c:fe st.vs<=50000
 ok:(List.range st.vs.length).all (okV st.ins st.vs)=true
 k:∀v∈st.vs,v.k<18446744073709551616
 i:st.ins.length<=20
 o:st.outs.length<=50
 m:st.names.length<=5000
theorem Gd.len(h:Gd st):∀k,k<st.vs.length->1<=(st.vs.getD k hM).len/\(st.vs.getD k hM).len<=1000:=λk O=>by
 have B:=List.all_eq_true.1 h.ok k (List.mem_range.2 O)
 exact of_decide_eq_true (jZ B)
theorem zO{v}(h:∀k,k<vs.length->1<=(vs.getD k hM).len/\(vs.getD k hM).len<=1000)(aL:1<=v.len/\v.len<=1000):∀k,k<(vs++[v]).length->1<=((vs++[v]).getD k hM).len/\((vs++[v]).getD k hM).len<=1000:=λk O=>by
 grind
theorem ue{v}(h:∀u∈vs,u.k<18446744073709551616)(aL:v.k<18446744073709551616):∀u∈vs++[v],u.k<18446744073709551616:=λu aJ=>by
 grind
theorem aA.qaw(h:Zp:=by
 go_region_law
  ((refine step_append_lies _ rfl (.tmp 12) (.tmp 14) 24 rfl I 53 bK (ii 0 0 0 0 0 0) 6 48 underlying24 hi bU bO bR rfl xab _ _ (fQ st.vs) (by simp[Act.eval]) (mO aT.o 1 _) ⟨aB.heap.size,0,none⟩ 1 1 v.cells (by simp[Act.eval]) rfl (yG _ _ _) (CS v) xab (by unfold maxLen;omega) xaa yaf _ rfl ?_;intro g9 cap9 bo bB bw b7 cA;have s0:=lI bw a5 HR.o.1 c1;have bG:=far2 bw a5 HR.o.1 co;have ax:=lI bw i HR.o.2 ay;have aN:=lI bw i HR.o.2 bc;have bC:=lI bw i HR.o.2 bd;have cp:=lI bw i HR.o.2 bg;have au:=lI bw i HR.o.2 Z;have bS:=lI bw i HR.o.2 s))
 all_goals
  have bu:=b7.imp id (λe=>Nat.le_of_eq e.symm)
  have aZ:=(ez 0 0 aB (.cells #[hI v.op,hI v.len,hI v.a,hI v.b,hI v.c,.float .f64 v.k] 53)).trans (eM 0 0 _ 1)
  have m:bo.ownsRow I 53 6 (hH g9 (bQ+1) cap9) (bQ+1) (fQ (st.vs++[v])):=by rw[lH,nZ];exact bB
  obtain⟨(o:V _),aa⟩:=(bb.o.keep aZ).vals (i7 bw) (by rw[yak,bD.o];rfl) m bu
  have a8:V _:=(H.o.keep aZ).trans aa
  clear aa bu aZ bB m bw b7 cA s0 bG ax aN bC cp au bS ay bc bd bg Z s co c1 aT bb H
  generalize bo.setCell ⟨P,1,_⟩ _=N at o a8⊢
  obtain⟨a1,bI,a2',bJ,a3,cb,ae,a9,ak,u⟩:=o.o.gs bN.o
  simp only at ae ak u
  subst ae ak
  have aP:V _:=AM _ _ _ _ _ bI _ bJ _ cb _ _ _ u C.o
  have G:(st.vs++[v]).length=bQ+1:=by grind
  have q:V _:=λW'=>je W' a1 a2' a3 st.ins.length bI (bQ+1) bJ st.outs.length cb xaa
  rw[G]at aP a9
  clear u
  have bh:=o.o.c0
  have aU:=o.o.c1
  have aY:=o.o.c2
  cases a9
  cases hb:kM (st.vs++[v])
  ·rw[hb]at aP aW
   have f:V _:=aW.o.trans (hJ xac)
   have n:V (∀W',Kept 0 0 _ W'->W'.cell? _=some _/\W'.cell? _=some _/\W'.cell? _=some _):=λW' k=>⟨(o.o.keep k).c0,(o.o.keep k).c1,(o.o.keep k).c2⟩
   clear hb aW
   go_wp2_with (first
    |(go_at_call 129;refine yai aP.o ?_;rintro e w ⟨rfl,l⟩;obtain⟨ba,aO,aR⟩:=n.o _ l)
    |(go_at_call 35;refine yai (q.o _) ?_;rintro e z ⟨rfl,j⟩))
   go_ret
   rw[f.o]
   exact⟨by simp,_,_,_,_,(o.o.keep l).keep j,(a8.o.keep l).keep j⟩
  ·rw[hb]at aP aW
   have f:V _:=aW.o.trans (hK rfl)
   have b3:V (∀W',Kept 0 0 _ W'->_):=λW' k=>jK (o.o.keep k).c5 (o.o.keep k).c6 (o.o.keep k).fr 5 p (Mst P (.slice a1 st.ins.length bI) (hH g9 (bQ+1) cap9) (.slice a3 st.outs.length cb) X) (.inl rfl)
   clear hb aW
   go_wp2_with (first
    |(go_at_call 129;refine yai aP.o ?_;rintro e w ⟨rfl,l⟩)
    |(go_at_call 92;refine yai (b3.o _ l) ?_;rintro e z ⟨rfl,F⟩))
   go_ret
   rw[f.o]
   exact⟨rfl,F.c5,F.c6,(a8.o.keep l).bad F.chg⟩):Zp:=h
open aA in
theorem mo{W}(h:WS W P I am al ar X bs st)(g:Gd st)(v)(aL:1<=v.len/\v.len<=1000)(a6:v.k<18446744073709551616)(p:Nat):
  Calls prog 96 #[hG P,v.agg,hI p] W (TrO W P I am al ar X bs (fZ st v p)):=by
 exact qav
end
section
open Go.RowKit Flt
variable {n:Int}{p i:Nat}{st:LSt}{r:List Nat}
theorem GU{vs}(h:kM vs=false):vs.length<=2000/\fe vs<=50000:=by
 grind [kM]
theorem Gd.put{st}(g:Gd st){v}(aL:okV st.ins (st.vs++[v]) st.vs.length=true)(O:v.k<18446744073709551616)(ah:kM (st.vs++[v])=false):Gd {st with vs:=st.vs++[v]}:=by
 obtain⟨B,R⟩:=GU ah;refine⟨B,R,?_,ue g.k O,g.i,g.o,g.m⟩;rw[List.all_eq_true];intro i hi;have hi':=List.mem_range.1 hi;simp only[yak,List.length_singleton]at hi';by_cases c:i<st.vs.length
 ·exact nh c (List.all_eq_true.1 g.ok i (List.mem_range.2 c))
 grind
theorem Gd.lenB(g:Gd st)(h:i<st.vs.length):1<=fg st i/\fg st i<=1000:=g.len i h
theorem Cc(ins vs v)(aj:v.op≠0)(ah:1<=v.len/\v.len<=1000)(ad:gg v=true)(av:∀o∈eW v,0<=o/\o<(vs.length:Int))(l:eR v.op v.len v.c ((eW v).map λo=>(vs.getD o.toNat hM).len)=true):okV ins (vs++[v]) vs.length=true:=by
 have aL:(vs++[v]).getD vs.length hM=v:=by simp_all
 have az:((eW v).map λo=>((vs++[v]).getD o.toNat hM).len)=((eW v).map λo=>(vs.getD o.toNat hM).len):=by
  apply List.map_congr_left;intro o h;have:=av o h;grind
 grind [okV,lenB,fI]
theorem vF(st)(xs:List Nat)(k)(h:k<xs.length):pO st (xs.take (k+1))=if pO st (xs.take k)<fg st (xs.getD k 0)then fg st (xs.getD k 0)else pO st (xs.take k):=by
 unfold pO;rw[yat h,List.foldl_append,yah,yal h];rfl
theorem xY{st}(g:Gd st)(xs:List Nat)(au:∀i∈xs,i<st.vs.length):∀k,k<=xs.length->1<=pO st (xs.take k)/\pO st (xs.take k)<=1000
 |0,_=>by simp_all [pO]
 |k+1,O=>by
  have ag:=xY g _ au k xaa
  have az:xs.getD k 0∈xs:=by grind
  have:=g.lenB (au _ az)
  rw[vF _ _ k xaa]
  omega
def ug (js:List Nat)(r:Rs (LSt×List Nat)):Rs (LSt×List Nat):=
 match r with
 |.error f=>.error f
 |.ok (s,ks)=>.ok (s,js++ks)
theorem GV(r):ug [] r=r:=by
 cases r with
 |error f=>rfl
 |ok x=>rfl
theorem oC(h:¬fg st i<n):iS n p st (i::r)=ug [i] (iS n p st r):=by
 rw[iS,hJ h];cases iS n p st r with
 |error f=>rfl
 |ok x=>rfl
theorem pF{s j}(h:fg st i<n)(aK:fZ st (eL 10 n (i:Int) 0 0) p=.ok (s,j)):iS n p st (i::r)=ug [j] (iS n p s r):=by
 rw[iS,hK h,aK];simp only;cases iS n p s r with
 |error f=>rfl
 |ok x=>rfl
theorem pG{f}(h:fg st i<n)(aK:fZ st (eL 10 n (i:Int) 0 0) p=.error f):iS n p st (i::r)=.error f:=by
 rw[iS,hK h,aK]
theorem vG(a b r):ug a (ug b r)=ug (a++b) r:=by
 cases r<;>grind [ug]
theorem Ky(hi:i<st.vs.length)(B:fg st i=1)(hn:1<=n/\n<=1000):okV st.ins (st.vs++[eL 10 n (i:Int) 0 0]) st.vs.length=true:=by
 refine Cc _ _ _ (show 10≠0 by decide) hn (by rfl) ?_ ?_
 ·grind [eW]
 simp_all [eW,fg,cnt,eR]
end
section
open Go.RowKit Flt
attribute [local go_sem] eG eE eD
variable {P I n:Nat}{am al ar X:Value}{a:Option Addr}{bs:List Bc}{st:LSt}{s:List UInt8}
structure LcR (M:Nat->Prop)(W:World)(a:Option Addr)(n:Nat)(loc:Loc):Prop where
 len:loc.length=n
 at_:0<n->∃g off,a=some ⟨g,off,none⟩/\¬M g/\g<W.heap.size/\∀k,k<n->W.cell? ⟨g,off+k*2,none⟩=some (eN (loc.getD k ([],0)).1)/\W.cell? ⟨g,off+k*2+1,none⟩=some (.int .i64 ((loc.getD k ([],0)).2:Int))
theorem LcR.mv{M M' W W' u}(h:LcR M W a n u)(k:Mv M W M' W'):LcR M' W' a n u:=
 ⟨h.len,λhn=>by
  obtain⟨g,off,e,B,R,h3⟩:=h.at_ hn
  exact⟨g,_,e,λc=>(k.new g c).elim B (λc=>by omega),yaj R k.chg.size,λj hj=>⟨(k.chg.cell R B).trans (h3 j hj).1,(k.chg.cell R B).trans (h3 j hj).2⟩⟩⟩
theorem LcR.keep{M W W' u}(h:LcR M W a n u)(k:Kept 0 0 W W'):LcR M W' a n u:=h.mv (Mv.of k)
def VlO (W:World)(P:Nat)(M:Nat->Prop)(r:Rs Nat)(e:Ending)(W':World):Prop:=
 match r with
 |.error (c,p)=>e=.returned (.int .i64 (-1))/\Bad W P M c p W'
 |.ok v=>e=.returned (.int .i64 (v:Int))/\Kept 0 0 W W'
theorem pR{ad:Type}(p z):∀(l:List ad) (k:Nat),k<l.length->p (l.getD k z)=true->(∀j,j<k->p (l.getD j z)=false)->l.find? p=some (l.getD k z)
 |x::r,0,_,h,_=>by simp_all
 |x::r,k+1,O,h,hj=>by
  have aj:=hj 0 xaa
  rw[List.find?_cons_of_neg (by grind)]
  exact pR p z r k (by grind) h (λj e=>hj (j+1) xaa)
theorem rG{ad:Type}(p z):∀(l:List ad),(∀j,j<l.length->p (l.getD j z)=false)->l.find? p=none
 |[],_=>rfl
 |x::r,h=>by
  have aj:=h 0 xac
  rw[List.find?_cons_of_neg (by grind)]
  exact rG p z r (λj hj=>h (j+1) (by grind))
theorem vH{M W b d}(h:BcOK M W b d):b.nm=d.nm:=by cases d<;>exact h.1
theorem oD{W}(h:WS W P I am al ar X bs st){k}(O:k<bs.length)(B:(bs.getD k hO).nm=s)(R:∀j,j<k->(bs.getD j hO).nm≠s):i9 st.names s=some (st.names.getD k (.val [] 0)):=
 pR (λb:Bdg=>b.nm==s) (.val [] 0) st.names k (hV h.nl O) (by rw[<-vH (h.nb k O),B];simp) (λj hj=>by rw[<-vH (h.nb j xaa)];grind)
theorem pd{W}(h:WS W P I am al ar X bs st)(R:∀j,j<bs.length->(bs.getD j hO).nm≠s):i9 st.names s=none:=
 rG (λb:Bdg=>b.nm==s) (.val [] 0) st.names (λj hj=>by rw[<-vH (h.nb j (hU h.nl hj))];exact yaw (R j (hU h.nl hj)))
theorem xZ{W}(h:WS W P I am al ar X bs st)(az:st.names.length<=5000)(bh Q cL u)(bO:LcR (Mst P am al ar X) W bh Q u)(hn:Q<=5000)(t):
  Calls prog 125 #[hG P,.slice bh Q cL,jb t] W (VlO W P (Mst P am al ar X) (fD st u t)):=by
 obtain⟨a0,aS,bp⟩:=t;have aI:V _:=it W a0 aS bp;have an:=ez 0 0 W (.cells #[eN a0,hI aS,eN bp] 84);have bW:V _:=an;have bb:V _:=h.keep an;have bi:V _:=bO.keep an;have f:V _:=bO.len;have bq:bs.length<=100000:=hW h.nl
 have bT:V (fD st _ ⟨a0,_,_⟩=match Bh u bp with|some v=>.ok v|none=>match i9 _ bp with|some (.val _ v)=>.ok v|_=>.error (3,aS)):=rfl;generalize fD st _ _=r at bT⊢;unfold jb;simp only;clear an h bO;go_enter func125,ntmps125;go_wp2_with fail;change Code.wp _ _ _ _ (W.alloc (.cells _ 84));generalize W.alloc _=aD at aI bW bb bi⊢;go_loopw [7] (λaL W'=>∃k:Nat,k<=Q/\aL=hI k/\V (Kept 0 0 aD W')/\V (∀j,j<k->(u.getD j ([],0)).1≠bp)) (λaL _=>Q-(intOf aL).toNat)
 case atStart=>exact⟨0,Nat.zero_le _,rfl,hQ,λj hj=>by omega⟩
 case round=>
  obtain⟨k,O,rfl,aH,ak⟩:=hrel;by_cases aF:k<Q
  ·obtain⟨g,off,rfl,_,aW,ai⟩:=(bi.o.keep aH.o).at_ xaa;obtain⟨c1,_⟩:=ai k aF;have c2:=(aI.o.keep aH.o).c2
   have bl:V (∀W',Kept 0 0 _ W'->W'.cell? _=some _):=λW' ap=>by
    obtain⟨aG,H,e,_,_,R⟩:=(bi.o.keep ap).at_ xaa
    cases e
    exact(R k aF).2
   generalize au:(u.getD k _).1=x at c1;have bm:V _:=au;clear au ai;go_upto_region 4 with fail;go_quiet (fail)
   have bX:V _:=Kept.trans aH.o (eM 0 0 _ nq);clear c1 c2 aH aW;generalize wr.drewN _=b4 at bX⊢;cases aq:(x==bp)
   ·have aa:V (∀j,j<k+1->(u.getD j _).1≠bp):=λj hj=>by
     by_cases c:j=k
     ·subst c;rw[bm.o];intro d;rw[d]at aq;simp at aq
     ·exact ak.o j xaa
    go_wp2_with fail;go_roundw
    case rel=>exact⟨k+1,by omega,by go_num,bX,aa⟩
    case measure=>simp[intOf];omega
   have aa:V (r=.ok (u.getD k ([],0)).2):=by
    show _=_
    have ah:Bh u bp=some (u.getD k ([],0)).2:=by
     unfold Bh;rw[pR (λb:List _×Nat=>b.1==bp) _ _ k (hU f.o aF) (by show((u.getD k ([],0)).1==bp)=true;rw[bm.o];exact aq) (λj hj=>yaw (ak.o j hj))];rfl
    rw[bT.o,ah]
   have c3:=bl.o _ bX.o;clear bl;go_wp2_with fail;go_ret;rw[aa.o];exact⟨rfl,bW.o.trans bX.o⟩
  obtain rfl:k=Q:=xaa
  have m:V (Bh u bp=none):=by
   show _=_;unfold Bh;rw[rG (λb:List _×Nat=>b.1==bp) _ _ (λj hj=>yaw (ak.o j (by rw[f.o]at hj;exact hj)))];rfl
  have bx:V _:=bb.o.keep aH.o;have cD:V _:=aI.o.keep aH.o;have q:V _:=bW.o.trans aH.o;have c2:=cD.o.c2;have c1:=cD.o.c1;have aK:V _:=rF bx.o.c3 bx.o.r4 bq bp;have c3:=bx.o.c3;have b3:V _:=jK bx.o.c5 bx.o.c6 bx.o.fr 3 aS (Mst P am al ar X) (.inl rfl);have B:V _:=mn bx.o.r4;obtain⟨a4,cb,a6⟩:=jM bx.o.r4;clear aH ak bi aI;subst a6;go_upto_region 7 with (go_at_call 94;refine yai aK.o ?_;rintro e af ⟨i,rfl,bu,S⟩;obtain rfl:=S.symm);rcases bu with⟨ao,bY,rfl,a9,b8⟩|⟨rfl,hn⟩
  ·have bk:V _:=oD bx.o bY a9 b8;have l:V _:=bx.o.nb _ bY;obtain⟨cg,bR,e4,_,_,_,bV⟩:=B.o xaa;cases e4;obtain⟨_,d1,d2,_,_⟩:=bV _ bY;generalize bF:bs.length=nn at*;generalize bs.getD ao _=b at d1 d2 l;generalize st.names.getD ao _=aA at bk l;have aO:¬((ao:Int)<0):=xaa;cases aA with
   |val aQ v=>
    have w:=l.o.2.1;have cl:=l.o.2.2;rw[w]at d1;rw[cl]at d2;have aa:V (r=.ok v):=by show _=_;rw[bT.o,m.o,bk.o]
    clear w cl a9 b8 bV bF l B;go_wp2_with fail;go_ret;rw[aa.o];exact⟨rfl,q.o⟩
   |fn aQ aN G=>
    have w:=l.o.2.1;rw[w]at d1;have aa:V (r=.error (3,aS)):=by show _=_;rw[bT.o,m.o,bk.o]
    clear w a9 b8 bV bF l B d2;go_wp2_with (go_at_call 92;refine yai b3.o ?_;rintro e aX ⟨rfl,F⟩);go_ret;rw[aa.o];exact⟨rfl,F.c5,F.c6,(Mv.of q.o).bad F.chg⟩
  have aa:V (r=.error (3,aS)):=by show _=_;rw[bT.o,m.o,pd bx.o hn]
  clear hn B;go_wp2_with (go_at_call 92;refine yai b3.o ?_;rintro e aX ⟨rfl,F⟩);go_ret;rw[aa.o];exact⟨rfl,F.c5,F.c6,(Mv.of q.o).bad F.chg⟩
