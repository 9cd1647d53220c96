import Derived.Test.YtbhmhdllnfkjhaaGreatP18
import Derived.Test.YtbhmhdllnfkjhaaGreatP22
namespace Go.Proofs.Z
variable{Zp:Prop}
open Tryz
set_option maxRecDepth 1000000
set_option maxHeartbeats 0
section
open Go.RowKit Flt
variable{ts:List Tok}
def kIn:List UInt8:=[105,110]
def J9:List UInt8:=[108,101,116]
def Ka:List UInt8:=[111,117,116]
def GT:List UInt8:=[100,101,102]
def Kc:List UInt8:=[114,101,112,101,97,116]
theorem Kd{n es}(h:Pr n es ts):∀t∈ts,t.sym≠[59]:=by
 induction h<;>(try simp only[List.forall_mem_append,List.forall_mem_cons])<;>grind[iG,li,gQ,yY,FV,AT,Jw,yZ,vB,qO,Du,BZ,Jx]
inductive Sm where
 |inS (n l:Tok)
 |letS (n:Tok) (e:Ex)
 |rep (i n:Tok) (e:Ex)
 |defS (n:Tok) (ps:List Tok) (e:Ex)
 |outS (k:Tok) (e:Ex)
inductive PPm:List Tok->List Tok->Prop
 |one {t:Tok}:t.sym=gQ->PPm [t] [t]
 |more {ps ts:List Tok}{c t:Tok}:PPm ps ts->c.sym=[44]->t.sym=gQ->PPm (ps++[t]) (ts++[c,t])
theorem GU{X}(h:PPm X ts):∀t∈ts,t.sym=gQ\/t.sym=[44]:=by
 induction h<;>grind
inductive PSm:Sm->List Tok->Prop
 |inS {k n c l:Tok}:k.sym=kIn->n.sym=gQ->c.sym=[58]->l.sym=iG->PSm (.inS n l) [k,n,c,l]
 |letS {k n q:Tok}{e:Ex}{ts:List Tok}:k.sym=J9->n.sym=gQ->q.sym=[61]->Pr 2 [e] ts->PSm (.letS n e) (k::n::q::ts)
 |rep {k i n q:Tok}{e:Ex}{ts:List Tok}:k.sym=Kc->i.sym=iG->n.sym=gQ->q.sym=[61]->Pr 2 [e] ts->PSm (.rep i n e) (k::i::n::q::ts)
 |def0 {k n l r q:Tok}{e:Ex}{ts:List Tok}:k.sym=GT->n.sym=gQ->l.sym=[40]->r.sym=[41]->q.sym=[61]->Pr 2 [e] ts->PSm (.defS n [] e) (k::n::l::r::q::ts)
 |defS {k n l r q:Tok}{e:Ex}{ps us ts:List Tok}:k.sym=GT->n.sym=gQ->l.sym=[40]->PPm ps us->r.sym=[41]->q.sym=[61]->Pr 2 [e] ts->PSm (.defS n ps e) (k::n::l::(us++r::q::ts))
 |outS {k:Tok}{e:Ex}{ts:List Tok}:k.sym=Ka->Pr 2 [e] ts->PSm (.outS k e) (k::ts)
theorem Ke{s}(h:PSm s ts):∀t∈ts,t.sym≠[59]:=by
 cases h<;>grind[Kd,GU,kIn,J9,Kc,GT,Ka,iG,gQ]
inductive PGm:List Sm->List Tok->Prop
 |nil:PGm [] []
 |cons {s:Sm}{ss:List Sm}{ts us:List Tok}{c:Tok}:PSm s ts->c.sym=[59]->PGm ss us->PGm (s::ss) (ts++c::us)
theorem vP{n}:∀(k:Nat) (ts:List Tok),ts.length<=k->∀r X h,PPm X h->fE n ts (gL::r)=-1->∃j us au,ts=us++au/\PPm j (h++us)/\fE n au r=-1
 |k,ts,N,r,X,h,aK,an=>by
  rw[iP xab]at an
  by_cases c:hdS ts=[44]
  ·rw[show gC gL (hdS ts)=[[44],[110,97,109,101],gL] by rw[c];rfl]at an
   obtain⟨o,us,rfl,al,an⟩:=eU xab an
   obtain⟨t,f,rfl,ht,an⟩:=eU xab an
   match k,N with
   |0,N=>simp at N
   |k+1,N=>
    obtain⟨j,H,au,rfl,h3,an⟩:=vP k f (by simp at N;omega) r (X++[t]) (h++[o,t]) (.more aK al ht) an
    exact⟨j,o::t::H,au,by simp,by simpa using h3,an⟩
  ·rw[show gC gL (hdS ts)=[] by
    unfold gC
    rw[hF xab,hF xab,hG rfl,hF c]]at an
   exact⟨X,[],ts,rfl,by simpa using aK,an⟩
theorem zJ{n}:∀(k:Nat) (ts:List Tok),ts.length<=k->fE n ts [iI]=-1->∃S,PGm S ts
 |k,ts,N,an=>by
  rw[iP xab]at an
  unfold gC at an
  rw[hG rfl]at an
  generalize hdS ts=s at an
  have g:∀{us:List Tok},us.length<ts.length->fE n us [iI]=-1->∃S,PGm S us:=λ{us} ab h=>by
   match k,N with
   |0,N=>omega
   |k+1,N=>exact zJ k us xaa h
  by_cases cy:s=[105,110]
  ·rw[hG cy]at an
   obtain⟨aj,us,rfl,B,an⟩:=eU xab an
   obtain⟨ah,us,rfl,J,an⟩:=eU xab an
   obtain⟨aF,us,rfl,h3,an⟩:=eU xab an
   obtain⟨ca,us,rfl,a0,an⟩:=eU xab an
   obtain⟨bS,us,rfl,bz,an⟩:=eU xab an
   obtain⟨S,aR⟩:=g yag an
   exact⟨_,.cons (ts:=[aj,ah,aF,ca]) (.inS B J h3 a0) bz aR⟩
  rw[hF cy]at an
  by_cases bA:s=[108,101,116]
  ·rw[hG bA]at an
   obtain⟨aj,us,rfl,B,an⟩:=eU xab an
   obtain⟨ah,us,rfl,J,an⟩:=eU xab an
   obtain⟨aF,us,rfl,h3,an⟩:=eU xab an
   obtain⟨e,us,au,rfl,a0,an⟩:=qS an
   obtain⟨bS,i,rfl,bz,an⟩:=eU xab an
   obtain⟨S,aR⟩:=g yag an
   exact⟨_,.cons (ts:=aj::ah::aF::us) (.letS B J h3 a0) bz aR⟩
  rw[hF bA]at an
  by_cases ap:s=[114,101,112,101,97,116]
  ·rw[hG ap]at an
   obtain⟨aj,us,rfl,B,an⟩:=eU xab an
   obtain⟨ah,us,rfl,J,an⟩:=eU xab an
   obtain⟨aF,us,rfl,h3,an⟩:=eU xab an
   obtain⟨ca,us,rfl,a0,an⟩:=eU xab an
   obtain⟨e,us,au,rfl,bP,an⟩:=qS an
   obtain⟨bS,i,rfl,bz,an⟩:=eU xab an
   obtain⟨S,aR⟩:=g yag an
   exact⟨_,.cons (ts:=aj::ah::aF::ca::us) (.rep B J h3 a0 bP) bz aR⟩
  rw[hF ap]at an
  by_cases bM:s=[100,101,102]
  ·rw[hG bM]at an
   obtain⟨aj,us,rfl,B,an⟩:=eU xab an
   obtain⟨ah,us,rfl,J,an⟩:=eU xab an
   obtain⟨aF,us,rfl,h3,an⟩:=eU xab an
   have an:fE n us (lF::[41]::[61]::gS::[59]::[iI])=-1:=an
   rw[iP xab]at an
   by_cases c:hdS us=[110,97,109,101]
   ·rw[show gC lF (hdS us)=[[110,97,109,101],gL] by rw[c];rfl]at an
    obtain⟨t,f,rfl,ht,an⟩:=eU xab an
    obtain⟨X,H,au,rfl,aK,an⟩:=vP f.length f yad _ [t] [t] (.one ht) an
    obtain⟨cc,us,rfl,bP,an⟩:=eU xab an
    obtain⟨bU,us,rfl,aS,an⟩:=eU xab an
    obtain⟨e,us,au,rfl,U,an⟩:=qS an
    obtain⟨bS,i,rfl,bz,an⟩:=eU xab an
    obtain⟨S,aR⟩:=g yag an
    have:=PGm.cons (ts:=aj::ah::aF::(t::H++cc::bU::us)) (.defS B J h3 aK bP aS U) bz aR
    exact⟨_,by simpa using this⟩
   ·rw[show gC lF (hdS us)=[] by
     unfold gC
     rw[hF xab,hG rfl,hF c]]at an
    obtain⟨cc,us,rfl,bP,an⟩:=eU xab an
    obtain⟨bU,us,rfl,aS,an⟩:=eU xab an
    obtain⟨e,us,au,rfl,U,an⟩:=qS an
    obtain⟨bS,i,rfl,bz,an⟩:=eU xab an
    obtain⟨S,aR⟩:=g yag an
    exact⟨_,.cons (ts:=aj::ah::aF::cc::bU::us) (.def0 B J h3 bP aS U) bz aR⟩
  rw[hF bM]at an
  by_cases bO:s=[111,117,116]
  ·rw[hG bO]at an
   obtain⟨aj,us,rfl,B,an⟩:=eU xab an
   obtain⟨e,us,au,rfl,a0,an⟩:=qS an
   obtain⟨bS,i,rfl,bz,an⟩:=eU xab an
   obtain⟨S,aR⟩:=g yag an
   exact⟨_,.cons (ts:=aj::us) (.outS B a0) bz aR⟩
  rw[hF bO]at an
  cases ts with
  |nil=>exact⟨_,.nil⟩
  |cons t ts=>
   rw[List.nil_append,fE,nG]at an
   simp only at an
   omega
theorem Kf{n}(h:fE n ts [iI]=-1):∃S,PGm S ts:=zJ ts.length ts yad h
inductive Bdg where
 |val (nm:List UInt8) (v:Nat)
 |fn (nm:List UInt8) (ps:List Tok) (e:Ex)
def Bdg.nm:Bdg->List UInt8
 |.val n _=>n
 |.fn n _ _=>n
structure LSt where
 ins:List Int
 vs:List Vl
 outs:List Int
 names:List Bdg
 calls:Nat
abbrev GV:=Int×Nat
abbrev Rs(α:Type):=Except GV α
def fV(st:LSt)(v:Vl)(p:Nat):Rs (LSt×Nat):=if kM (st.vs++[v])=true then .error (5,p)else .ok ({st with vs:=st.vs++[v]},st.vs.length)
def fe(st:LSt)(i:Nat):Int:=(st.vs.getD i hI).len
def i8(ns:List Bdg)(s:List UInt8):Option Bdg:=ns.find? λb=>b.nm==s
def Bk(loc:List (List UInt8×Nat))(s:List UInt8):Option Nat:=(loc.find? λb=>b.1==s).map (·.2)
def fC(st:LSt)(loc:List (List UInt8×Nat))(t:Tok):Rs Nat:=
 match Bk loc t.text with
 |some v=>.ok v
 |none=>match i8 st.names t.text with
  |some (.val _ v)=>.ok v
  |_=>.error (3,t.pos)
def qg(st:LSt)(xs:List Nat):Int:=xs.foldl (λn i=>if n<fe st i then fe st i else n) 1
def iM(n:Int)(p:Nat):LSt->List Nat->Rs (LSt×List Nat)
 |st,[]=>.ok (st,[])
 |st,i::r=>if fe st i<n then
   match fV st (eL 10 n (i:Int) 0 0) p with
   |.error f=>.error f
   |.ok (st1,j)=>match iM n p st1 r with
    |.error f=>.error f
    |.ok (st2,js)=>.ok (st2,j::js)
  else match iM n p st r with
   |.error f=>.error f
   |.ok (st2,js)=>.ok (st2,i::js)
def jZ(st:LSt)(xs:List Nat)(p:Nat):Rs (LSt×List Nat):=if xs.all (λi=>fe st i==qg st xs||fe st i==1)=true then iM (qg st xs) p st xs else .error (4,p)
def iD(t:List UInt8):Int:=t.foldl (λv b=>v*10+((b.toNat:Int)-48)) 0
def oQ(t:List UInt8):Nat:=cop .quo (floatOfInt .f64 (nds (io t)).1) (floatOfInt .f64 (nds (io t)).2.1)
def qW(s:List UInt8):Int:=if s=[43]then 2 else if s=[45]then 3 else if s=[42]then 4 else 5
def iR(st:LSt)(m:List Vl×Int)(p:Nat):Rs (LSt×Nat):=if kM m.1=true then .error (5,p)else .ok ({st with vs:=m.1},m.2.toNat)
def my(st:LSt)(k:Tok)(a:Nat)(n:Tok):Rs (LSt×Nat):=
 if k.sym=qO then
  if fe st a<=iD n.text then .error (4,n.pos)else fV st (eL 11 1 (a:Int) 0 (iD n.text)) k.pos
 else if fe st a≠1 then .error (4,k.pos)
 else if iD n.text<1\/1000<iD n.text then .error (4,n.pos)else fV st (eL 10 (iD n.text) (a:Int) 0 0) k.pos
def mz(st:LSt)(k:Tok)(a:Nat)(i n:Tok):Rs (LSt×Nat):=
 if fe st a≠1 then .error (4,k.pos)
 else if iD n.text<1\/1000<iD n.text then .error (4,n.pos)
 else if iD n.text<=iD i.text then .error (4,i.pos)else fV st (eL 12 (iD n.text) (a:Int) 0 (iD i.text)) k.pos
def qX(st:LSt)(o:Tok)(a b:Nat):Rs (LSt×Nat):=
 match jZ st [a,b] o.pos with
 |.error f=>.error f
 |.ok (s2,f)=>fV s2 (eL (qW o.sym) (fe s2 (f.getD 0 0)) (f.getD 0 0:Nat) (f.getD 1 0:Nat) 0) o.pos
def qY(st:LSt)(k:Tok)(a b:Nat):Rs (LSt×Nat):=
 match jZ st [a,b] k.pos with
 |.error f=>.error f
 |.ok (s2,f)=>
  if k.sym=AT then fV s2 (eL 7 (fe s2 (f.getD 0 0)) (f.getD 0 0:Nat) (f.getD 1 0:Nat) 0) k.pos
  else match fV s2 (eL 4 (fe s2 (f.getD 0 0)) (f.getD 0 0:Nat) (f.getD 1 0:Nat) 0) k.pos with
   |.error f=>.error f
   |.ok (s3,p)=>fV s3 (eL 9 1 (p:Int) 0 0) k.pos
def xN(st:LSt)(k:Tok)(a b c:Nat):Rs (LSt×Nat):=
 match jZ st [a,b,c] k.pos with
 |.error f=>.error f
 |.ok (s2,f)=>fV s2 (eL 8 (fe s2 (f.getD 0 0)) (f.getD 0 0:Nat) (f.getD 1 0:Nat) (f.getD 2 0:Nat)) k.pos
def pS(st:LSt)(k:Tok)(a x:Nat):Rs (LSt×Nat):=if fe st a≠1 then .error (4,k.pos)else iR st (grM st.vs a x) k.pos
def qh(st:LSt)(k:Tok)(a x d:Nat):Rs (LSt×Nat):=
 if fe st d=1/\1<fe st x then
  match fV st (eL 10 (fe st x) (d:Int) 0 0) k.pos with
  |.error f=>.error f
  |.ok (s2,d2)=>iR s2 (jW s2.vs a x d2) k.pos
 else if fe st d≠fe st x then .error (4,k.pos)else iR st (jW st.vs a x d) k.pos
abbrev Loc:=List (List UInt8×Nat)
def jF(r:Option (Rs (LSt×Nat)))(f:LSt->Nat->Option (Rs (LSt×Nat))):Option (Rs (LSt×Nat)):=
 match r with
 |none=>none
 |some (.error e)=>some (.error e)
 |some (.ok (st,a))=>f st a
def gj(ev:LSt->Ex->Option (Rs (LSt×Nat))):LSt->List Ex->Option (Rs (LSt×List Nat))
 |st,[]=>some (.ok (st,[]))
 |st,e::r=>match ev st e with
  |none=>none
  |some (.error f)=>some (.error f)
  |some (.ok (s1,a))=>match gj ev s1 r with
   |none=>none
   |some (.error f)=>some (.error f)
   |some (.ok (s2,xs))=>some (.ok (s2,a::xs))
def eO:Nat->LSt->Loc->Ex->Option (Rs (LSt×Nat))
 |0,_,_,_=>none
 |_+1,st,_,.num t=>some (fV st ⟨1,1,0,0,0,oQ t.text⟩ t.pos)
 |_+1,st,loc,.name t=>some (match fC st loc t with|.error f=>.error f|.ok v=>.ok (st,v))
 |f+1,st,loc,.neg o e=>jF (eO f st loc e) λs a=>some (fV s (eL 6 (fe s a) (a:Int) 0 0) o.pos)
 |f+1,st,loc,.bin o a b=>jF (eO f st loc a) λs1 x=>jF (eO f s1 loc b) λs2 y=>some (qX s2 o x y)
 |f+1,st,loc,.call t es=>
  match i8 st.names t.text with
  |some (.fn _ ps body)=>
   if ps.length=es.length then
    match gj (λs e=>eO f s loc e) st es with
    |none=>none
    |some (.error e)=>some (.error e)
    |some (.ok (s1,xs))=>if 500<=s1.calls then some (.error (5,t.pos))else eO f {s1 with calls:=s1.calls+1} ((ps.map (·.text)).zip xs) body
   else some (.error (3,t.pos))
  |_=>some (.error (3,t.pos))
 |f+1,st,loc,.key1 k e=>jF (eO f st loc e) λs a=>some (if k.sym=yY then fV s (eL 13 (fe s a) (a:Int) 0 0) k.pos else fV s (eL 9 1 (a:Int) 0 0) k.pos)
 |f+1,st,loc,.key2 k a b=>jF (eO f st loc a) λs1 x=>jF (eO f s1 loc b) λs2 y=>some (qY s2 k x y)
 |f+1,st,loc,.key3 k a b c=>jF (eO f st loc a) λs1 x=>jF (eO f s1 loc b) λs2 y=>jF (eO f s2 loc c) λs3 z=>some (xN s3 k x y z)
 |f+1,st,loc,.keyN k e n=>jF (eO f st loc e) λs a=>some (my s k a n)
 |f+1,st,loc,.put k e i n=>jF (eO f st loc e) λs a=>some (mz s k a i n)
 |f+1,st,loc,.grad k e x=>match fC st loc x with
  |.error q=>some (.error q)
  |.ok v=>jF (eO f st loc e) λs a=>some (pS s k a v)
 |f+1,st,loc,.jvp k e x d=>match fC st loc x with
  |.error q=>some (.error q)
  |.ok v=>jF (eO f st loc e) λs1 a=>jF (eO f s1 loc d) λs2 y=>some (qh s2 k a v y)
end
section
open Go.RowKit Flt
attribute[local go_sem] eG eE eD
variable{w W' aB:World}{M':Nat->Prop}{P g off n:Nat}{ts:List Tok}
structure Mv(M:Nat->Prop)(W:World)(M':Nat->Prop)(W':World):Prop where
 chg:Chg M W W'
 new:∀b,M' b->M b\/W.heap.size<=b
theorem Mv.refl(M W):Mv M W M W:=⟨(Kept.refl 0 0 W).chg,λ_ h=>.inl h⟩
theorem Mv.keep{M W az W2}(h:Mv M W M' az)(k:Kept 0 0 az W2):Mv M W M' W2:=
 ⟨⟨k.os.trans h.chg.os,k.tape.trans h.chg.tape,k.output.trans h.chg.output,yao h.chg.size k.size,λi hi hn=>(k.block i (yak hi h.chg.size) xaa).trans (h.chg.block i hi hn)⟩,h.new⟩
theorem Mv.of{M W}(k:Kept 0 0 W W'):Mv M W M W':=(Mv.refl M W).keep k
theorem Mv.trans{M e W}(h:Mv M W M' W')(k:Mv M' W' e aB):Mv M W e aB where
 chg:=⟨k.chg.os.trans h.chg.os,k.chg.tape.trans h.chg.tape,k.chg.output.trans h.chg.output,yao h.chg.size k.chg.size,λi hi hn=>(k.chg.block i (yak hi h.chg.size) (λc=>(h.new i c).elim hn (λc=>by omega))).trans (h.chg.block i hi hn)⟩
 new:=λb hb=>(k.new b hb).elim (h.new b) (λc=>.inr (yao h.chg.size c))
theorem Mv.bad{M W}(h:Mv M W M' W')(k:Chg M' W' aB):Chg M W aB:=
 ⟨k.os.trans h.chg.os,k.tape.trans h.chg.tape,k.output.trans h.chg.output,yao h.chg.size k.size,λi hi hn=>(k.block i (yak hi h.chg.size) (λc=>(h.new i c).elim hn (λc=>by omega))).trans (h.chg.block i hi hn)⟩
structure TkR(M:Nat->Prop)(W:World)(a:Option Addr)(n:Nat)(ts:List Tok):Prop where
 len:ts.length=n
 at_:0<n->∃g off,a=some ⟨g,off,none⟩/\¬M g/\TkA W g off n ts
theorem TkA.keepC{I S}(h:TkA w g off n ts)(k:Chg S w I)(G:¬S g):TkA I g off n ts:=
 ⟨h.len,yak h.lt k.size,λj hj=>(k.cell (p:=⟨g,off+j*3,none⟩) h.lt G).trans (h.c0 j hj),λj hj=>(k.cell (p:=⟨g,off+j*3+1,none⟩) h.lt G).trans (h.c1 j hj),λj hj=>(k.cell (p:=⟨g,off+j*3+2,none⟩) h.lt G).trans (h.c2 j hj)⟩
theorem TkR.mv{M W a}(h:TkR M W a n ts)(k:Mv M W M' W'):TkR M' W' a n ts:=
 ⟨h.len,λhn=>by
  obtain⟨g,off,e,B,J⟩:=h.at_ hn
  exact⟨g,_,e,λc=>(k.new g c).elim B (λc=>hM J.lt),J.keepC k.chg B⟩⟩
theorem ur(ts:List Tok)(i j k)(N:k<j-i):((ts.drop i).take (j-i)).getD k hJ=ts.getD (i+k) hJ:=by
 simp_all
theorem TkA.cut(h:TkA w g off n ts){i j}(hj:j<=n):TkA w g (off+i*3) (j-i) ((ts.drop i).take (j-i)):=by
 have ab:=h.len;refine⟨by grind,h.lt,λk N=>?_,λk N=>?_,λk N=>?_⟩
 ·rw[ur _ i j k N,show off+i*3+k*3=off+(i+k)*3 by omega];exact h.c0 _ xaa
 ·rw[ur _ i j k N,show off+i*3+k*3=off+(i+k)*3 by omega];exact h.c1 _ xaa
 rw[ur _ i j k N,show off+i*3+k*3=off+(i+k)*3 by omega];exact h.c2 _ xaa
structure Dgs(l:List UInt8):Prop where
 len:l.length<=15
 d:∀k,k<l.length->48<=bt l k/\bt l k<=57
def kP(x:List UInt8):Prop:=xh (io x)/\(io x).countP dig<=15
structure TsOK(ts:List Tok):Prop where
 n5:ts.length<=5000
 ti:∀t∈ts,t.sym=iG->Dgs t.text
 tn:∀t∈ts,(t.sym=iG\/t.sym=li)->kP t.text
structure Bc where
 nm:List UInt8
 fn:Bool
 val:Int
 pa:Option Addr
 pn:Nat
 pc:Nat
 ba:Option Addr
 bn:Nat
 bc:Nat
def hK:Bc:=⟨[],false,0,none,0,0,none,0,0⟩
def Bc.cells(b:Bc):List Value:=[eN b.nm,.bool b.fn,.int .i64 b.val,.slice b.pa b.pn b.pc,.slice b.ba b.bn b.bc]
def bcF:List Bc->List Value
 |[]=>[]
 |b::r=>b.cells++bcF r
theorem xO(a b):bcF (a++b)=bcF a++bcF b:=by
 induction a<;>grind[bcF]
theorem xP(b):bcF [b]=b.cells:=by simp[bcF]
theorem GW:∀(a:List Bc) (k j:Nat),k<a.length->j<5->(bcF a)[k*5+j]? =(a.getD k hK).cells[j]?
 |x::r,0,j,_,hj=>by
  grind[bcF,Bc.cells]
 |x::r,k+1,j,N,hj=>by
  have ak:x.cells.length=5:=rfl
  rw[bcF,yas xaa,ak,show(k+1)*5+j-5=k*5+j by omega]
  exact GW r k j (by grind) hj
def BcOK(M:Nat->Prop)(W:World)(b:Bc):Bdg->Prop
 |.val nm v=>b.nm=nm/\b.fn=false/\b.val=(v:Int)
 |.fn nm ps e=>b.nm=nm/\b.fn=true/\TkR M W b.pa b.pn ps/\∃ts,Pr 2 [e] ts/\(TsOK ts/\b.bn<=b.bc)/\TkR M W b.ba b.bn ts
theorem BcOK.mv{M W b d}(h:BcOK M W b d)(k:Mv M W M' W'):BcOK M' W' b d:=by
 cases d with
 |val af v=>exact h
 |fn af X e=>
  obtain⟨B,J,h3,ts,a0,bz,bP⟩:=h;exact⟨B,J,h3.mv k,_,a0,bz,bP.mv k⟩
def Mst(P:Nat)(u1 u2 u3 u4:Value)(b:Nat):Prop:=b=P\/u1.ownBlock=some b\/u2.ownBlock=some b\/u3.ownBlock=some b\/u4.ownBlock=some b
structure WS(W:World)(P B:Nat)(u1 u2 u3 u4:Value)(bs:List Bc)(st:LSt):Prop where
 lt:P<W.heap.size
 fr:∀o,W.frozen? ⟨P,o,none⟩=false
 c0:W.cell? ⟨P,0,none⟩=some u1
 c1:W.cell? ⟨P,1,none⟩=some u2
 c2:W.cell? ⟨P,2,none⟩=some u3
 c3:W.cell? ⟨P,3,none⟩=some u4
 c4:W.cell? ⟨P,4,none⟩=some (.int .i64 (st.calls:Int))
 c5:W.cell? ⟨P,5,none⟩=some (.int .i64 0)
 c6:W.cell? ⟨P,6,none⟩=some (.int .i64 0)
 r1:W.ownsRow B 3 1 u1 st.ins.length (st.ins.map (Value.int .i64))
 r2:W.ownsRow B 60 6 u2 st.vs.length (fK st.vs)
 r3:W.ownsRow B 3 1 u3 st.outs.length (st.outs.map (Value.int .i64))
 r4:W.ownsRow B 147 5 u4 bs.length (bcF bs)
 np:u1.ownBlock≠some P/\u2.ownBlock≠some P/\u3.ownBlock≠some P/\u4.ownBlock≠some P
 ap:Apart u1 u2/\Apart u1 u3/\Apart u1 u4/\Apart u2 u3/\Apart u2 u4/\Apart u3 u4
 nl:bs.length=st.names.length
 nb:∀i,i<bs.length->BcOK (Mst P u1 u2 u3 u4) W (bs.getD i hK) (st.names.getD i (.val [] 0))
 sz:B<=P
theorem Apart.symm{u v}(h:Apart u v):Apart v u:=λk N aH=>h k aH N
theorem WS.keep{W R u1 u2 u3 u4 bs st}(h:WS W P R u1 u2 u3 u4 bs st)(k:Kept 0 0 W W'):WS W' P R u1 u2 u3 u4 bs st:=by
 have e:∀o,_:=λo=>k.cell (p:=⟨P,o,none⟩) h.lt xaa;exact⟨yak h.lt k.size,λo=>(k.frozen h.lt xaa).trans (h.fr o),(e 0).trans h.c0,(e 1).trans h.c1,(e 2).trans h.c2,(e 3).trans h.c3,(e 4).trans h.c4,(e 5).trans h.c5,(e 6).trans h.c6,eR h.r1 k,eR h.r2 k,eR h.r3 k,eR h.r4 k,h.np,h.ap,h.nl,λi hi=>(h.nb i hi).mv (Mv.of k),h.sz⟩
def TrO(W:World)(P B:Nat)(u1 u2 u3 u4:Value)(bs:List Bc)(r:Rs (LSt×Nat))(e:Ending)(W':World):Prop:=
 match r with
 |.error (c,p)=>e=.returned (.int .i64 (-1))/\W'.cell? ⟨P,5,none⟩=some (.int .i64 c)/\W'.cell? ⟨P,6,none⟩=some (.int .i64 (p:Int))/\Chg (Mst P u1 u2 u3 u4) W W'
 |.ok (st,v)=>e=.returned (.int .i64 (v:Int))/\∃v1 v2 v3 v4,WS W' P B v1 v2 v3 v4 bs st/\Mv (Mst P u1 u2 u3 u4) W (Mst P v1 v2 v3 v4) W'
structure Bad(W:World)(P:Nat)(M:Nat->Prop)(c:Int)(p:Nat)(W':World):Prop where
 c5:W'.cell? ⟨P,5,none⟩=some (.int .i64 c)
 c6:W'.cell? ⟨P,6,none⟩=some (.int .i64 (p:Int))
 chg:Chg M W W'
theorem jG{W}(bz:W.cell? ⟨P,5,none⟩=some (hD 0))(bP:W.cell? ⟨P,6,none⟩=some (hD 0))(fr:∀o,W.frozen? ⟨P,o,none⟩=false)(c)(p:Nat)(M)(C:M P):
  Calls prog 117 #[hB P,hD c,hD p] W λe W'=>e=.returned (hD (-1))/\Bad W P M c p W':=by
 have G:=fr 5;have q:=fr 6;have R1:V (((W.setCell _ _).setCell ⟨P,6,_⟩ (hD p)).cell? _=some (hD c)):=(eM _ _ _ _ _ _ (.inr xaa)).trans (fD _ _ _ _ _ bz);have R2:V (((W.setCell ⟨P,5,_⟩ (hD c)).setCell _ (hD p)).cell? _=some _):=fD _ _ _ _ _ ((eM _ _ _ _ _ _ (.inr xaa)).trans bP);have R3:V _:=Chg.andThen ((eP W ⟨P,5,none⟩ (hD c) yac).chg1 C) ((eP _ ⟨P,6,none⟩ (hD p) yac).chg1 C);clear fr C;go_enter func117,ntmps117;go_wp2;go_ret;exact⟨rfl,R1.o,R2.o,R3.o⟩
end
section
open Go.RowKit Flt Ieee
variable{x:List UInt8}
theorem Kg(s f c):∃r,double.nearest s f c=W s r/\r<=9218868437227405312:=by
 unfold Ieee.Format.nearest;by_cases h:f=0
 ·rw[hG h,pd];grind
 rw[hF h];simp only[pd,sY];exact⟨_,rfl,Nat.min_le_right _ _⟩
theorem zK(neg n c):Ieee.Toward.cut .even neg n c<=n+1:=by
 unfold Ieee.Toward.cut;simp only;exact Nat.add_le_add (Nat.div_le_self _ _) (Bool.toNat_le _)
theorem ut(f)(h:f<=10000000000000000):∃r,double.nearest false f 0=W false r/\r<9218868437227405312/\(0<f->0<r):=by
 unfold Ieee.Format.nearest;by_cases ae:f=0
 ·rw[hG ae,pd];grind
 rw[hF ae];simp only[pd,sY,oZ,qr,wu]
 have bJ:f.log2<=53:=by
  have:=(Nat.log2_lt ae).2 (show f<2 ^ 54 by omega);omega
 have aq:f<2 ^ (f.log2+1):=Nat.lt_log2_self;generalize f.log2=L at*;have ab:max ((0:Int)+L-(52:Nat)) (-1074)=L-52:=xaa;rw[ab]
 have hn:f<<<(0-((L:Int)-52)).toNat<=10000000000000000:=by
  rw[Nat.shiftLeft_eq];by_cases c:L<=52
  ·have e:(0-((L:Int)-52)).toNat=52-L:=xaa;rw[e];have B:f*2 ^ (52-L)<=2 ^ (L+1)*2 ^ (52-L):=Nat.mul_le_mul_right _ (Nat.le_of_lt aq);rw[<-Nat.pow_add,show L+1+(52-L)=53 by omega]at B;omega
  grind
 have N:=zK false (f<<<(0-((L:Int)-52)).toNat) ((L:Int)-52-0).toNat;generalize Ieee.Toward.cut _ _ _ _=K at*;have hi:((L:Int)-52- -1074).toNat=L+1022:=xaa;rw[hi];refine⟨_,rfl,?_,λ_=>?_⟩<;>omega
theorem GX{s r}(h:r<=9218868437227405312):(double.read (W s r)).isNaN=false:=by
 rcases Nat.lt_or_eq_of_le h with h|rfl
 ·rw[gW h];rfl
 rw[kI];rfl
theorem Kh{n d}(ae:0<=n)(B:n<=10000000000000000)(J:1<=d)(h3:d<=10000000000000000):(f64.read (cop .quo (floatOfInt .f64 n) (floatOfInt .f64 d))).isNaN=false:=by
 obtain⟨r,e1,av,_⟩:=ut n.natAbs xaa;obtain⟨q,e2,am,bd⟩:=ut d.natAbs xaa
 have f1:floatOfInt .f64 n=W false r:=by
  rw[<-e1];show double.nearest (decide (n<0)) n.natAbs 0=_;grind
 have f2:floatOfInt .f64 d=W false q:=by
  rw[<-e2];show double.nearest (decide (d<0)) d.natAbs 0=_;grind
 rw[f1,f2];have C:=LS (bd xaa);have e:floatBits .quo .f64 _ _=((double.read (W false r)).quotient (double.fractionBits+2) (double.read (W false q))).map double.write:=rfl;unfold cop;rw[e,gW av,gW am];simp only[Ieee.Datum.quotient,hF (show ¬M q=0 by omega),Option.map_some,Option.getD_some,Ieee.Format.write];obtain⟨z,af,bi⟩:=Kg (false ^^ false) (2*((M r<<<(double.fractionBits+2+(M q).log2-(M r).log2))/M q)+((M r<<<(double.fractionBits+2+(M q).log2-(M r).log2))%M q !=0).toNat) (-1074+(E r:Nat)-(-1074+(E q:Nat))-(double.fractionBits+2+(M q).log2-(M r).log2:Nat)-1);rw[af];exact GX bi
theorem Ki(h:kP x):(f64.read (oQ x)).isNaN=false:=by
 obtain⟨⟨p,aK⟩,G⟩:=h;obtain⟨B,J,h3,a0⟩:=vx _ aK.digit _ yad (aK.short G);rw[yap yad]at B J h3 a0;exact Kh B J h3 a0
theorem rR(h:kP x){f c}(k:RN (io x) f c):f=oQ x/\c=0:=by
 rcases k with⟨B,_⟩|⟨_,J,_⟩|⟨_,_,_,a0,bz⟩
 ·exact absurd h.1 B
 ·have:=h.2;omega
 refine⟨?_,bz⟩;rcases mT a0 with e|⟨_,e⟩<;>grind[Ki,oQ]
end
section
open Go.RowKit Flt
theorem m8(w e s):Kept 0 0 w (Lib.bytesWorld w e s):=
 ⟨rfl,rfl,rfl,hR Lib.bytesWorld_size,λk N _=>Lib.bytesWorld_at_old w e s k N⟩
theorem qZ(w e t):YS (Lib.bytesWorld w e ⟨t.toArray⟩) (some ⟨w.heap.size,0,none⟩) t.length (io t) where
 len:=by unfold io;rw[List.length_map]
 lt:=λx ak=>by
  unfold io at ak
  obtain⟨b,_,rfl⟩:=List.mem_map.1 ak
  have:=b.toNat_lt
  omega
 at_:=.inr ⟨w.heap.size,0,rfl,hR Lib.bytesWorld_size,λk N=>by
  rw[Nat.zero_add,Lib.bytesWorld_cell w e ⟨t.toArray⟩ k N,rC t k N]
  rfl⟩
theorem sT{x}(h:kP x):x.length<=16:=by
 obtain⟨⟨p,aK⟩,G⟩:=h;have:=aK.short G;unfold io at this;rwa [List.length_map]at this
theorem Ci(x):oQ x<18446744073709551616:=lq _ _ _
end
section
open Go.RowKit Flt
attribute[local go_sem] eG eE eD
variable{x y:List UInt8}{P R cap:Nat}{ts:List Tok}{a:Option Addr}{v u1 u2 u3 u4:Value}{vs:List Vl}{bs:List Bc}{st:LSt}
theorem mA{W:World}(f:W.ownsRow R 147 5 v bs.length (bcF bs))(h:0<bs.length):∃g cap,v=hC g bs.length cap/\R<=g/\g<W.heap.size/\bs.length<=cap/\
  ∀k,k<bs.length->W.cell? ⟨g,k*5,none⟩=some (eN (bs.getD k hK).nm)/\W.cell? ⟨g,k*5+1,none⟩=some (.bool (bs.getD k hK).fn)/\W.cell? ⟨g,k*5+2,none⟩=some (hD (bs.getD k hK).val)/\W.cell? ⟨g,k*5+3,none⟩=some (.slice (bs.getD k hK).pa (bs.getD k hK).pn (bs.getD k hK).pc)/\W.cell? ⟨g,k*5+4,none⟩=some (.slice (bs.getD k hK).ba (bs.getD k hK).bn (bs.getD k hK).bc):=by
 rcases f.2 with⟨_,c⟩|⟨g,cap,H,rfl,O,ax,Z,_,cj,bG⟩
 ·omega
 have aR:g<W.heap.size:=by grind
 have au:∀k j,k<bs.length->j<5->W.cell? _=(bs.getD k _).cells[j]?:=λk j N hj=>by
  rw[cell_of_row W g _ _ _ _ ax,<-Array.getElem?_toList]
  have:(H.toList.take (bs.length*5))[k*5+j]? =(bcF bs)[k*5+j]?:=by rw[bG]
  rw[List.getElem?_take_of_lt xaa]at this
  rw[this]
  exact GW _ k j N hj
 exact⟨g,_,rfl,O,aR,Z,λk N=>⟨au k 0 N xaa,au k 1 N xaa,au k 2 N xaa,au k 3 N xaa,au k 4 N xaa⟩⟩
theorem jH{W:World}(f:W.ownsRow R 147 5 v bs.length (bcF bs)):∃a cap,v=.slice a bs.length cap:=by
 rcases f.2 with⟨e,c⟩|⟨g,cap,H,e,_⟩<;>grind
def Pj(bs:List Bc)(s:List UInt8)(r:Int):Prop:=(∃k:Nat,k<bs.length/\r=(k:Int)/\(bs.getD k hK).nm=s/\∀j,j<k->(bs.getD j hK).nm≠s)\/(r=-1/\∀j,j<bs.length->(bs.getD j hK).nm≠s)
theorem rS{W}(c3:W.cell? ⟨P,3,none⟩=some u4)(f:W.ownsRow R 147 5 u4 bs.length (bcF bs))(ab:bs.length<=100000)(s):
  Calls prog 119 #[hB P,eN s] W λe W'=>∃r,e=.returned (hD r)/\Pj bs s r/\W'=W:=by
 have aa:V _:=mA f;obtain⟨a,cap,rfl⟩:=jH f;clear f;generalize hn:bs.length=n at ab c3 aa;have bu:V _:=hn;clear hn;go_enter func119,ntmps119;go_wp2_with fail;go_loopw [5] (λaD W'=>W'=W/\∃k:Nat,k<=n/\aD=hD k/\V (∀j,j<k->(bs.getD j hK).nm≠s)) (λaD _=>n-(intOf aD).toNat)
 case atStart=>exact⟨rfl,0,yae,rfl,λj hj=>by omega⟩
 case round=>
  obtain⟨rfl,k,N,rfl,aw⟩:=hrel;by_cases aC:k<n
  ·obtain⟨g,cp,e,_,_,_,bP⟩:=aa.o xaa;cases e;have c1:=(bP k aC).1;have HK:V (∀x,(bs.getD k hK).nm=x->x=s->_):=λx B J=>B.trans J;generalize ak:(bs.getD k _).nm=x at c1;have bn:V _:=ak;clear ak bP;cases am:(x==s)
   ·have U:V (∀j,j<k+1->(bs.getD j _).nm≠s):=λj hj=>by
     by_cases c:j=k
     ·subst c;rw[bn.o];grind
     ·exact aw.o j xaa
    go_wp2_with fail;exact xck
   have U:V ((bs.getD k hK).nm=s):=by grind
   go_wp2_with fail;go_ret;exact⟨_,rfl,.inl ⟨k,hO bu.o aC,rfl,U.o,aw.o⟩,rfl⟩
  obtain rfl:k=n:=xaa;go_wp2_with fail;go_ret;exact⟨_,rfl,.inr ⟨rfl,hO bu.o aw.o⟩,rfl⟩
theorem GY(s w):Calls prog 144 #[eN s] w λe I=>e=.returned (hD (qW s))/\I=w:=by
 unfold qW;by_cases ae:s=[43]
 ·rw[hG ae];have bf:(s==[43])=true:=by grind
  clear ae;exact xeq
 rw[hF ae];have bf:=yax ae;by_cases B:s=[45]
 ·rw[hG B];have aP:(s==[45])=true:=by grind
  clear ae B;exact xeq
 rw[hF B];have aP:=yax B;by_cases J:s=[42]
 ·rw[hG J];have aY:(s==[42])=true:=by grind
  exact xij
 rw[hF J];have aY:=yax J;exact xij
theorem uu(x y q)(ts:List Tok)(k)(h:k<ts.length):jD x y q (ts.take (k+1))=iJ x y (jD x y q (ts.take k)) (ts.getD k hJ):=by
 rw[yau h,fp,yai,yam h];rfl
theorem Pk(x y):∀(ts:List Tok) (q:OpS),(jD x y q ts).i=q.i+ts.length
 |[],q=>rfl
 |t::ts,q=>by
  rw[eI,Pk x y _,yaq]
  grind[iJ]
theorem Pm(x y):∀(ts:List Tok) (q:OpS),q.d-ts.length<=(jD x y q ts).d/\(jD x y q ts).d<=q.d+ts.length
 |[],q=>by rw[fI];simp
 |t::ts,q=>by
  rw[eI,yaq]
  have B:=Pm x y ts (iJ x y q t)
  grind[iJ]
theorem P9(x y q t):(iJ x y q t).b=jb t.sym:=by unfold iJ;grind
def opQ(x y:List UInt8)(ts:List Tok)(k:Nat):OpS:=jD x y ⟨0,0,-1,false⟩ (ts.take k)
theorem Pn{k}(h:k<=ts.length):(opQ x y ts k).i=k:=by
 unfold opQ;rw[Pk,List.length_take];show 0+_=_;omega
theorem Po{k}(h:k<ts.length):(opQ x y ts (k+1)).b=jb (ts.getD k hJ).sym:=by
 unfold opQ;rw[uu x y _ _ k h,P9]
theorem GZ{k}(h:k<ts.length):opQ x y ts (k+1)=iJ x y (opQ x y ts k) (ts.getD k hJ):=uu x y _ ts k h
theorem Nv{k:Nat}:-((k:Int))<=(opQ x y ts k).d/\(opQ x y ts k).d<=k:=by
 have h:=Pm x y (ts.take k) ⟨0,0,-1,false⟩;have J:(ts.take k).length<=k:=by rw[List.length_take];omega
 unfold opQ;simp only at h;omega
theorem fN(W g off m cap ts)(f:TkA W g off m ts)(aq:m<=5000)(x y):
  Calls prog 142 #[.slice (some ⟨g,off,none⟩) m cap,eN x,eN y] W λe W'=>e=.returned (hD (opM x y ts))/\W'=W:=by
 have aI:V _:=f;have HL:V _:=f.len;have HE:V (opM x y ts=(opQ x y ts m).at_):=by show _=_;unfold opM opQ;rw[<-f.len,List.take_length]
 clear f;rw[HE.o];go_enter func142,ntmps142;go_wp2_with fail;go_loopw [7,8,9] (λT cN aD W'=>W'=W/\∃k:Nat,k<=m/\aD=hD k/\T=hD (opQ x y ts k).d/\cN=hD (opQ x y ts k).at_) (λ_ _ aD _=>m-(intOf aD).toNat)
 case atStart=>exact⟨rfl,0,yae,rfl,rfl,rfl⟩
 case round=>
  obtain⟨rfl,k,N,rfl,rfl,rfl⟩:=hrel;by_cases aC:k<m
  ·have p:k<ts.length:=by rw[HL.o];exact aC
   have c0:=aI.o.c0 k aC;have au:V _:=GZ (x:=x) (y:=y) p;have an:=Nv (x:=x) (y:=y) (ts:=ts) (k:=k);have hi:=Pn (x:=x) (y:=y) (ts:=ts) (k:=k) xaa;have j:V (k=0->(opQ x y ts k).b=false):=λh=>by subst h;rfl
   have aS:V (∀q,k=q+1->(opQ x y _ k).b=jb (ts.getD q _).sym):=λq h=>by subst h;exact Po xaa
   have aj:V (∀q,k=q+1->_):=λq h=>aI.o.c0 q xaa;generalize opQ x y _ k=Q at au an hi j aS⊢;generalize ts.getD k _=K at c0 au;obtain⟨l,d,a,b⟩:=Q;simp only at an hi au j aS⊢;subst hi;by_cases B:K.sym=[40]
   ·have U:V (opQ x y _ _=⟨l+1,d+1,a,_⟩):=au.o.trans (xo B);have aP:(K.sym==[40])=true:=by rw[B];rfl
    have aN:IntKind.i64.wrap (d+1)=d+1:=by rw[IntKind.wrap_i64];omega
    generalize K.sym=s at c0 aP;clear B au j aS aj p;exact xdt
   by_cases J:K.sym=[41]
   ·have U:V (opQ x y _ _=⟨l+1,d-1,a,_⟩):=au.o.trans (xq J);have aP:=yax B;have aY:(K.sym==[41])=true:=by rw[J];rfl
    have aN:IntKind.i64.wrap (d-1)=d-1:=by rw[IntKind.wrap_i64];omega
    generalize K.sym=s at c0 aP aY;clear B J au j aS aj p;exact xdt
   have aP:=yax B;have aY:=yax J;have HO:V (¬(d=0/\b=true/\(K.sym=x\/K.sym=y))->opQ x y _ _=⟨l+1,d,a,_⟩):=λh=>au.o.trans (mY B J h);have u:V ((d=0/\b=true/\(K.sym=x\/K.sym=y))->opQ x y _ _=⟨l+1,d,l,_⟩):=λh=>au.o.trans (xr B J h);clear au B J;generalize jb _=ch at HO u;generalize K.sym=s at c0 aP aY HO u;by_cases G:d=0
   ·subst G;cases l with
    |zero=>
     have U:V _:=HO.o (λc=>by have:=j.o rfl;rw[this]at c;exact absurd c.2.1 xac);clear j aS aj p HO u;rw[Nat.zero_mul,Nat.add_zero]at c0;go_wp2_with fail;go_roundw;exact⟨trivial,0+1,by omega,by go_num,by rw[U.o],by rw[U.o]⟩;simp[intOf];omega
    |succ q=>
     have hb:=aS.o q rfl;have c1:=aj.o q rfl;generalize (ts.getD q _).sym=X at hb c1;have n:V _:=hb;clear hb j aS aj p;have aN:IntKind.i64.wrap ((q+1:Nat)-1)=q:=by rw[IntKind.wrap_i64];omega
     have a2:(0:Int)<(q:Nat)+1:=xaa;cases bF:(s==x)
     ·have t:s≠x:=λc=>by rw[c]at bF;simp at bF
      cases r:(s==y)
      ·have S:s≠y:=λc=>by rw[c]at r;simp at r
       have U:V _:=HO.o (λc=>c.2.2.elim t S);clear t S HO u c1;go_wp2_with fail;go_roundw;exact⟨trivial,q+1+1,by omega,by go_num,by rw[U.o],by rw[U.o]⟩;simp[intOf];omega
      have w:s=y:=by simpa using r
      have ad:V (jb _=false->_):=λh=>HO.o (λc=>by rw[n.o,h]at c;exact absurd c.2.1 xac);have i:V _:=λh=>u.o ⟨rfl,n.o.trans h,.inr w⟩;clear t w HO u n;cases a8:(X==[110,97,109,101])
      case true=>
       have U:V _:=i.o (by show jb X=_;unfold jb gQ iG li;rw[a8];rfl);clear ad i;go_wp2_with fail;go_roundw;exact⟨trivial,q+1+1,by omega,by go_num,by rw[U.o],by rw[U.o]⟩;simp[intOf];omega
      case false=>
       cases aV:(X==[105,110,116])
       case true=>
        have U:V _:=i.o (by show jb X=_;unfold jb gQ iG li;rw[a8,aV];rfl);clear ad i;go_wp2_with fail;go_roundw;exact⟨trivial,q+1+1,by omega,by go_num,by rw[U.o],by rw[U.o]⟩;simp[intOf];omega
       case false=>
        cases p2:(X==[100,101,99])
        case true=>
         have U:V _:=i.o (by show jb X=_;unfold jb gQ iG li;rw[a8,aV,p2];rfl);clear ad i;go_wp2_with fail;go_roundw;exact⟨trivial,q+1+1,by omega,by go_num,by rw[U.o],by rw[U.o]⟩;simp[intOf];omega
        case false=>
         cases z:(X==[41])
         case true=>
          have U:V _:=i.o (by show jb X=_;unfold jb gQ iG li;rw[a8,aV,p2,z];rfl);clear ad i;go_wp2_with fail;go_roundw;exact⟨trivial,q+1+1,by omega,by go_num,by rw[U.o],by rw[U.o]⟩;simp[intOf];omega
         case false=>
          have U:V _:=ad.o (by show jb X=_;unfold jb gQ iG li;rw[a8,aV,p2,z];rfl);clear ad i;go_wp2_with fail;go_roundw;exact⟨trivial,q+1+1,by omega,by go_num,by rw[U.o],by rw[U.o]⟩;simp[intOf];omega
     have d0:s=x:=by simpa using bF
     have ad:V (jb _=false->_):=λh=>HO.o (λc=>by rw[n.o,h]at c;exact absurd c.2.1 xac);have i:V _:=λh=>u.o ⟨rfl,n.o.trans h,.inl d0⟩;clear d0 HO u n;cases a8:(X==[110,97,109,101])
     case true=>
      have U:V _:=i.o (by show jb X=_;unfold jb gQ iG li;rw[a8];rfl);clear ad i;go_wp2_with fail;go_roundw;exact⟨trivial,q+1+1,by omega,by go_num,by rw[U.o],by rw[U.o]⟩;simp[intOf];omega
     case false=>
      cases aV:(X==[105,110,116])
      case true=>
       have U:V _:=i.o (by show jb X=_;unfold jb gQ iG li;rw[a8,aV];rfl);clear ad i;go_wp2_with fail;go_roundw;exact⟨trivial,q+1+1,by omega,by go_num,by rw[U.o],by rw[U.o]⟩;simp[intOf];omega
      case false=>
       cases p2:(X==[100,101,99])
       case true=>
        have U:V _:=i.o (by show jb X=_;unfold jb gQ iG li;rw[a8,aV,p2];rfl);clear ad i;go_wp2_with fail;go_roundw;exact⟨trivial,q+1+1,by omega,by go_num,by rw[U.o],by rw[U.o]⟩;simp[intOf];omega
       case false=>
        cases z:(X==[41])
        case true=>
         have U:V _:=i.o (by show jb X=_;unfold jb gQ iG li;rw[a8,aV,p2,z];rfl);clear ad i;go_wp2_with fail;go_roundw;exact⟨trivial,q+1+1,by omega,by go_num,by rw[U.o],by rw[U.o]⟩;simp[intOf];omega
        case false=>
         have U:V _:=ad.o (by show jb X=_;unfold jb gQ iG li;rw[a8,aV,p2,z];rfl);clear ad i;go_wp2_with fail;go_roundw;exact⟨trivial,q+1+1,by omega,by go_num,by rw[U.o],by rw[U.o]⟩;simp[intOf];omega
   have U:V _:=HO.o (λc=>G c.1);have hd0:=yax G;clear j aS aj p HO u G;exact xdt
  obtain rfl:k=m:=xaa;go_wp2_with fail;go_ret;exact⟨rfl,rfl⟩
theorem Pp(l k h):(((⟨l.toArray⟩:ByteArray)[k]'h).toNat:Int)=bt l k:=by
 have N:k<l.length:=by rw[<-gi];exact h
 unfold bt;rw[yai,yam N];rfl
theorem vQ(l k)(h:k<l.length):iD (l.take (k+1))=iD (l.take k)*10+(bt l k-48):=by
 unfold iD;rw[yau h,List.foldl_append];unfold bt;simp_all
theorem vR{l}(h:Dgs l):∀k,k<=l.length->0<=iD (l.take k)/\iD (l.take k)<10 ^ k
 |0,_=>by rw[List.take_zero];exact⟨by decide,by decide⟩
 |k+1,N=>by
  have aa:=vR h k xaa
  have G:=h.d k xaa
  rw[vQ l k xaa,Int.pow_succ]
  omega
theorem Pq:∀k:Nat,k<=15->(10:Int) ^ k<=1000000000000000:=by
 intro k N;have:∀k:Fin 16,(10:Int) ^ k.1<=1000000000000000:=xab;exact this ⟨k,by omega⟩
theorem qj{l}(h:Dgs l){k}(N:k<=l.length):0<=iD (l.take k)/\iD (l.take k)<1000000000000000:=by
 have B:=vR h k N;have J:=Pq k (hM h.len);omega
theorem zL(t)(h:Dgs t.text)(W):Calls prog 120 #[jc t] W λe W'=>e=.returned (hD (iD t.text))/\Kept 0 0 W W':=by
 obtain⟨aW,X,l⟩:=t;simp only at h⊢;unfold jc;simp only;have HD:V _:=h;have ab:=h.len;have aA:V _:=iq W aW X l;have HK:V _:=ez 0 0 W (.cells #[eN aW,hD X,eN l] 92);have ar:=gi l;clear h;go_enter func120,ntmps120;go_wp2_with fail;change Code.wp _ _ _ _ (W.alloc (.cells _ 92));generalize W.alloc _=az at aA HK⊢;have aQ:=aA.o.c2;go_loopw [3,4] (λv aD W'=>W'=az/\∃k:Nat,k<=l.length/\aD=hD k/\v=hD (iD (l.take k))) (λ_ aD _=>l.length-(intOf aD).toNat)
 case atStart=>exact⟨rfl,0,yae,rfl,rfl⟩
 case round=>
  obtain⟨rfl,k,N,rfl,rfl⟩:=hrel;by_cases aC:k<l.length
  ·have bX:=Pp l k;have G:=HD.o.d k aC;have hb:=qj HD.o N;have U:V _:=vQ l k aC;generalize bt l k=x at bX G U;generalize iD _=v at hb U⊢;have aN:IntKind.i64.wrap (v*10)=v*10:=by rw[IntKind.wrap_i64];omega
   have a2:IntKind.u8.wrap (x-48)=x-48:=by grind[IntKind.wrap,IntKind.bits]
   have bk:IntKind.i64.wrap (v*10+(x-48))=v*10+(x-48):=by rw[IntKind.wrap_i64];omega
   have bq:IntKind.i64.wrap (x-48)=x-48:=by rw[IntKind.wrap_i64];omega
   have co:(k:Int)<l.length:=xaa;go_wp2_with fail;go_roundw;exact⟨trivial,k+1,by omega,by go_num,by rw[U.o]⟩;simp[intOf];omega
  obtain rfl:k=l.length:=xaa;have co:¬((l.length:Int)<l.length):=xaa;go_wp2_with fail;go_ret;exact⟨rfl,HK.o⟩
theorem bC.qbq(h:Zp:=by
 have r:g9≠P:=λe=>by
  subst e
  rcases be with c|c
  ·exact p2 c
  ·have:=h.lt;omega
 have T:(Value.slice _ _ _).ownBlock≠some P:=λc=>r ((aP P).1 c);have ak:∀o,_:=λo=>X.cell (p:=⟨P,o,none⟩) h.lt p2;have es:∀o,o≠1->(bg.setCell ⟨P,1,_⟩ (hC g9 n9 cap9)).cell? _=W.cell? _:=λo al=>(eM _ _ _ _ _ _ (.inr (λe=>al e.symm))).trans (ak o);have ar:=(eP (lo:=P) (hi:=P+1) bg ⟨P,1,none⟩ (hC g9 n9 cap9) yac)
 have aw:Mv (Mst P u1 u2 u3 u4) W (Mst P u1 (hC g9 n9 cap9) u3 u4) (bg.setCell ⟨P,1,none⟩ (hC g9 n9 cap9)):=by
  refine⟨Chg.andThen ⟨X.os,X.tape,X.output,X.size,λi hi hn=>X.block i hi (λc=>hn (.inr (.inr (.inl c))))⟩ (ar.chg1 (.inl rfl)),λb hb=>?_⟩;rcases hb with c|c|c|c|c
  ·exact .inl (.inl c)
  ·exact .inl (.inr (.inl c))
  ·rw[aP]at c;subst c;rcases be with d|d
   ·exact .inl (.inr (.inr (.inl d)))
   omega
  ·exact .inl (.inr (.inr (.inr (.inl c))))
  exact .inl (.inr (.inr (.inr (.inr c))))
 exact qef):Zp:=h
theorem bC.qeg(h:Zp:=by
 refine⟨⟨by simpa using yak h.lt X.size,λo=>?_,(es 0 xab).trans h.c0,fD _ _ _ _ _ ((ak 1).trans h.c1),(es 2 xab).trans h.c2,(es 3 xab).trans h.c3,(es 4 xab).trans h.c4,(es 5 xab).trans h.c5,(es 6 xab).trans h.c6,?_,?_,?_,?_,⟨aV,T,z,l⟩,⟨bU h.r1 p,C,g,(bU h.r3 aa.symm).symm,(bU h.r4 m.symm).symm,q⟩,h.nl,λi hi=>(h.nb i hi).mv aw,h.sz⟩,aw⟩
 ·have:=(X.frozen h.lt p2).trans (h.fr o);simp[this]
 ·exact eJ (fy h.r1 X (λb hb c=>p b hb c)) aV
 ·subst hn;exact eJ aZ T
 ·exact eJ (fy h.r3 X (λb hb c=>aa b c hb)) z
 exact eJ (fy h.r4 X (λb hb c=>m b c hb)) l):Zp:=h
open bC in
theorem WS.vals{W bg}(h:WS W P R u1 u2 u3 u4 bs st)(X:Chg (λb=>u2.ownBlock=some b) W bg){g9 n9 cap9}(hn:n9=vs.length)(aZ:bg.ownsRow R 60 6 (hC g9 n9 cap9) n9 (fK vs))(be:u2.ownBlock=some g9\/W.heap.size<=g9):
  WS (bg.setCell ⟨P,1,none⟩ (hC g9 n9 cap9)) P R u1 (hC g9 n9 cap9) u3 u4 bs {st with vs:=vs}/\Mv (Mst P u1 u2 u3 u4) W (Mst P u1 (hC g9 n9 cap9) u3 u4) (bg.setCell ⟨P,1,none⟩ (hC g9 n9 cap9)):=by
 exact qbp
theorem jt{W:World}{e s n:Nat}{xs}(f:W.ownsRow R e s v n xs):∃a cap,v=.slice a n cap:=by
 rcases f.2 with⟨e,c⟩|⟨g,cap,H,e,_⟩<;>grind
theorem xQ{W n xs}(f:W.ownsRow R 3 1 (.slice a n cap) n (xs.map (Value.int .i64)))(ab:xs.length=n):IS W 0 W.heap.size a n xs:=by
 refine⟨ab,?_⟩;rcases f.2 with⟨_,c⟩|⟨g,c,H,e,O,ax,Z,_,cj,bG⟩
 ·exact .inl c
 cases e;have aR:g<W.heap.size:=by grind
 refine .inr ⟨g,0,rfl,yae,aR,aR,λk N=>?_⟩;rw[Nat.zero_add,cell_of_row W g _ _ _ _ ax,<-Array.getElem?_toList];exact xin
theorem G4{W n}(f:W.ownsRow R 60 6 (.slice a n cap) n (fK vs))(ab:vs.length=n)(N:∀v∈vs,v.k<18446744073709551616):VS W 0 W.heap.size a n vs:=by
 by_cases ae:n=0
 ·exact⟨ab,N,.inl ae⟩
 obtain⟨g,c,e,O,ax,_,av⟩:=mh f xaa ab;cases e;exact av.vs N
theorem WS.gs{W}(h:WS W P R u1 u2 u3 u4 bs st)(N:∀v∈st.vs,v.k<18446744073709551616):∃a1 c1 Y c2 a3 c3,u1=.slice a1 st.ins.length c1/\u2=.slice Y st.vs.length c2/\u3=.slice a3 st.outs.length c3/\GS W a1 st.ins.length Y st.vs.length a3 st.outs.length st.ins st.vs st.outs:=by
 obtain⟨a1,c1,e1⟩:=jt h.r1;obtain⟨Y,c2,e2⟩:=jt h.r2;obtain⟨a3,c3,af⟩:=jt h.r3;refine⟨_,_,_,_,_,_,e1,e2,af,⟨xQ (by have:=h.r1;rw[e1]at this;exact this) rfl,G4 (by have:=h.r2;rw[e2]at this;exact this) rfl N,xQ (by have:=h.r3;rw[af]at this;exact this) rfl⟩⟩
structure Gd(st:LSt):Prop where
 n:st.vs.length<=2000
 c:fd st.vs<=50000
 ok:(List.range st.vs.length).all (okV st.ins st.vs)=true
 k:∀v∈st.vs,v.k<18446744073709551616
 i:st.ins.length<=20
 o:st.outs.length<=50
 m:st.names.length<=5000
theorem Gd.len(h:Gd st):∀k,k<st.vs.length->1<=(st.vs.getD k hI).len/\(st.vs.getD k hI).len<=1000:=λk N=>by
 have B:=List.all_eq_true.1 h.ok k (List.mem_range.2 N)
 exact of_decide_eq_true (jB B)
theorem zM{v}(h:∀k,k<vs.length->1<=(vs.getD k hI).len/\(vs.getD k hI).len<=1000)(aD:1<=v.len/\v.len<=1000):∀k,k<(vs++[v]).length->1<=((vs++[v]).getD k hI).len/\((vs++[v]).getD k hI).len<=1000:=λk N=>by
 grind
theorem uv{v}(h:∀u∈vs,u.k<18446744073709551616)(aD:v.k<18446744073709551616):∀u∈vs++[v],u.k<18446744073709551616:=λu aH=>by
 grind
theorem S.qas(h:Zp:=by
 go_region_law
  ((refine step_append_lies _ rfl (.tmp 12) (.tmp 14) 24 rfl R 60 b3 (kT 0 0 0 0 0 0) 6 48 underlying24 hi a6 b8 b5 rfl xab _ _ (fK st.vs) (by simp[Act.eval]) (me aZ.o 1 _) ⟨aO.heap.size,0,none⟩ 1 1 v.cells (by simp[Act.eval]) rfl (vg _ _ _) (AD v) xab (by unfold maxLen;omega) xaa yag _ rfl ?_;intro g9 cap9 bg bQ a0 cd bO;have aT:=lJ a0 aN HR.o.1 c1;have bG:=far2 a0 aN HR.o.1 cF;have ao:=lJ a0 c HR.o.2 bF;have aG:=lJ a0 c HR.o.2 a9;have Q:=lJ a0 c HR.o.2 ba;have cf:=lJ a0 c HR.o.2 be;have bv:=lJ a0 c HR.o.2 bi;have bJ:=lJ a0 c HR.o.2 s))
 all_goals
  have al:=cd.imp id (λe=>Nat.le_of_eq e.symm)
  have aK:=(ez 0 0 aO (.cells #[hD v.op,hD v.len,hD v.a,hD v.b,hD v.c,.float .f64 v.k] 60)).trans (eK 0 0 _ 1)
  have n:bg.ownsRow R 60 6 (hC g9 (aH+1) cap9) (aH+1) (fK (st.vs++[v])):=by rw[kC,mV];exact bQ
  obtain⟨(U:V _),aa⟩:=(bH.o.keep aK).vals (ii a0) (by rw[yal,bu.o];rfl) n al
  have aU:V _:=(C.o.keep aK).trans aa
  clear aa al aK bQ n a0 cd bO aT bG ao aG Q cf bv bJ bF a9 ba be bi s cF c1 aZ bH C
  generalize bg.setCell ⟨P,1,_⟩ _=F at U aU⊢
  obtain⟨a1,bB,a2',bE,a3,b6,e1,e2,af,m⟩:=U.o.gs bD.o
  simp only at e1 af m
  subst e1 af
  have aI:V _:=Bj _ _ _ _ _ bB _ bE _ b6 _ _ _ m ab.o
  have z:(st.vs++[v]).length=aH+1:=by grind
  have w:V _:=λW'=>jf W' a1 a2' a3 st.ins.length bB (aH+1) bE st.outs.length b6 xaa
  rw[z]at aI e2
  clear m
  have bb:=U.o.c0
  have aM:=U.o.c1
  have aQ:=U.o.c2
  cases e2
  cases hb:kM (st.vs++[v])
  ·rw[hb]at aI bV
   have f:V _:=bV.o.trans (hF xac)
   have q:V (∀W',Kept 0 0 _ W'->W'.cell? _=some _/\W'.cell? _=some _/\W'.cell? _=some _):=λW' k=>⟨(U.o.keep k).c0,(U.o.keep k).c1,(U.o.keep k).c2⟩
   clear hb bV
   go_wp2_with (first
    |(go_at_call 149;refine yaj aI.o ?_;rintro e t ⟨rfl,l⟩;obtain⟨bd,aL,aJ⟩:=q.o _ l)
    |(go_at_call 41;refine yaj (w.o _) ?_;rintro e u ⟨rfl,i⟩))
   go_ret
   rw[f.o]
   exact⟨by simp,_,_,_,_,(U.o.keep l).keep i,(aU.o.keep l).keep i⟩
  ·rw[hb]at aI bV
   have f:V _:=bV.o.trans (hG rfl)
   have bm:V (∀W',Kept 0 0 _ W'->_):=λW' k=>jG (U.o.keep k).c5 (U.o.keep k).c6 (U.o.keep k).fr 5 p (Mst P (.slice a1 st.ins.length bB) (hC g9 (aH+1) cap9) (.slice a3 st.outs.length b6) u4) (.inl rfl)
   clear hb bV
   go_wp2_with (first
    |(go_at_call 149;refine yaj aI.o ?_;rintro e t ⟨rfl,l⟩)
    |(go_at_call 117;refine yaj (bm.o _ l) ?_;rintro e u ⟨rfl,S⟩))
   go_ret
   rw[f.o]
   exact⟨rfl,S.c5,S.c6,(aU.o.keep l).bad S.chg⟩):Zp:=h
open S in
theorem mB{W}(h:WS W P R u1 u2 u3 u4 bs st)(g:Gd st)(v)(aD:1<=v.len/\v.len<=1000)(Z:v.k<18446744073709551616)(p:Nat):
  Calls prog 121 #[hB P,v.agg,hD p] W (TrO W P R u1 u2 u3 u4 bs (fV st v p)):=by
 exact qar
end
section
open Go.RowKit Flt
variable{n:Int}{p i:Nat}{st:LSt}{r:List Nat}
theorem G5{vs}(h:kM vs=false):vs.length<=2000/\fd vs<=50000:=by
 grind[kM]
theorem Gd.put{st}(g:Gd st){v}(aD:okV st.ins (st.vs++[v]) st.vs.length=true)(N:v.k<18446744073709551616)(ab:kM (st.vs++[v])=false):Gd {st with vs:=st.vs++[v]}:=by
 obtain⟨B,J⟩:=G5 ab;refine⟨B,J,?_,uv g.k N,g.i,g.o,g.m⟩;rw[List.all_eq_true];intro i hi;have X:=List.mem_range.1 hi;simp only[yal,List.length_singleton]at X;by_cases c:i<st.vs.length
 ·exact nw c (List.all_eq_true.1 g.ok i (List.mem_range.2 c))
 grind
theorem Gd.lenB(g:Gd st)(h:i<st.vs.length):1<=fe st i/\fe st i<=1000:=g.len i h
theorem Cj(ins vs v)(ae:v.op≠0)(ab:1<=v.len/\v.len<=1000)(ar:gg v=true)(al:∀o∈eQ v,0<=o/\o<(vs.length:Int))(l:eY v.op v.len v.c ((eQ v).map λo=>(vs.getD o.toNat hI).len)=true):okV ins (vs++[v]) vs.length=true:=by
 have aD:(vs++[v]).getD vs.length hI=v:=by simp_all
 have aq:((eQ v).map λo=>((vs++[v]).getD o.toNat hI).len)=((eQ v).map λo=>(vs.getD o.toNat hI).len):=by
  apply List.map_congr_left;intro o bC;have:=al o bC;grind
 grind[okV,lenB,fJ]
theorem vS(st)(xs:List Nat)(k)(h:k<xs.length):qg st (xs.take (k+1))=if qg st (xs.take k)<fe st (xs.getD k 0)then fe st (xs.getD k 0)else qg st (xs.take k):=by
 unfold qg;rw[yau h,List.foldl_append,yai,yam h];rfl
theorem xR{st}(g:Gd st)(xs:List Nat)(ak:∀i∈xs,i<st.vs.length):∀k,k<=xs.length->1<=qg st (xs.take k)/\qg st (xs.take k)<=1000
 |0,_=>by simp_all[qg]
 |k+1,N=>by
  have aa:=xR g _ ak k xaa
  have aq:xs.getD k 0∈xs:=by grind
  have:=g.lenB (ak _ aq)
  rw[vS _ _ k xaa]
  omega
def uw(js:List Nat)(r:Rs (LSt×List Nat)):Rs (LSt×List Nat):=
 match r with
 |.error f=>.error f
 |.ok (s,ks)=>.ok (s,js++ks)
theorem G6(r):uw [] r=r:=by
 cases r with
 |error f=>rfl
 |ok x=>rfl
theorem oR(h:¬fe st i<n):iM n p st (i::r)=uw [i] (iM n p st r):=by
 rw[iM,hF h];cases iM n p st r with
 |error f=>rfl
 |ok x=>rfl
theorem pT{s j}(h:fe st i<n)(aK:fV st (eL 10 n (i:Int) 0 0) p=.ok (s,j)):iM n p st (i::r)=uw [j] (iM n p s r):=by
 rw[iM,hG h,aK];simp only;cases iM n p s r with
 |error f=>rfl
 |ok x=>rfl
theorem pU{f}(h:fe st i<n)(aK:fV st (eL 10 n (i:Int) 0 0) p=.error f):iM n p st (i::r)=.error f:=by
 rw[iM,hG h,aK]
theorem vT(a b r):uw a (uw b r)=uw (a++b) r:=by
 cases r<;>grind[uw]
theorem Kj(hi:i<st.vs.length)(B:fe st i=1)(hn:1<=n/\n<=1000):okV st.ins (st.vs++[eL 10 n (i:Int) 0 0]) st.vs.length=true:=by
 refine Cj _ _ _ (show 10≠0 by decide) hn (by rfl) ?_ ?_
 ·grind[eQ]
 simp_all[eQ,fe,cnt,eY]
end
section
open Go.RowKit Flt
attribute[local go_sem] eG eE eD
variable{P R n:Nat}{u1 u2 u3 u4:Value}{a:Option Addr}{bs:List Bc}{st:LSt}{s:List UInt8}
structure LcR(M:Nat->Prop)(W:World)(a:Option Addr)(n:Nat)(loc:Loc):Prop where
 len:loc.length=n
 at_:0<n->∃g off,a=some ⟨g,off,none⟩/\¬M g/\g<W.heap.size/\∀k,k<n->W.cell? ⟨g,off+k*2,none⟩=some (eN (loc.getD k ([],0)).1)/\W.cell? ⟨g,off+k*2+1,none⟩=some (.int .i64 ((loc.getD k ([],0)).2:Int))
theorem LcR.mv{M M' W W' u}(h:LcR M W a n u)(k:Mv M W M' W'):LcR M' W' a n u:=
 ⟨h.len,λhn=>by
  obtain⟨g,off,e,B,J,h3⟩:=h.at_ hn
  exact⟨g,_,e,λc=>(k.new g c).elim B (λc=>by omega),yak J k.chg.size,λj hj=>⟨(k.chg.cell J B).trans (h3 j hj).1,(k.chg.cell J B).trans (h3 j hj).2⟩⟩⟩
theorem LcR.keep{M W W' u}(h:LcR M W a n u)(k:Kept 0 0 W W'):LcR M W' a n u:=h.mv (Mv.of k)
def VlO(W:World)(P:Nat)(M:Nat->Prop)(r:Rs Nat)(e:Ending)(W':World):Prop:=
 match r with
 |.error (c,p)=>e=.returned (.int .i64 (-1))/\Bad W P M c p W'
 |.ok v=>e=.returned (.int .i64 (v:Int))/\Kept 0 0 W W'
theorem qk{Y:Type}(p z):∀(l:List Y) (k:Nat),k<l.length->p (l.getD k z)=true->(∀j,j<k->p (l.getD j z)=false)->l.find? p=some (l.getD k z)
 |x::r,0,_,h,_=>by simp_all
 |x::r,k+1,N,h,hj=>by
  have ae:=hj 0 xaa
  rw[List.find?_cons_of_neg (by grind)]
  exact qk p z r k (by grind) h (λj e=>hj (j+1) xaa)
theorem rT{Y:Type}(p z):∀(l:List Y),(∀j,j<l.length->p (l.getD j z)=false)->l.find? p=none
 |[],_=>rfl
 |x::r,h=>by
  have ae:=h 0 xac
  rw[List.find?_cons_of_neg (by grind)]
  exact rT p z r (λj hj=>h (j+1) (by grind))
theorem vU{M W b d}(h:BcOK M W b d):b.nm=d.nm:=by cases d<;>exact h.1
theorem oS{W}(h:WS W P R u1 u2 u3 u4 bs st){k}(N:k<bs.length)(B:(bs.getD k hK).nm=s)(J:∀j,j<k->(bs.getD j hK).nm≠s):i8 st.names s=some (st.names.getD k (.val [] 0)):=
 qk (λb:Bdg=>b.nm==s) (.val [] 0) st.names k (hQ h.nl N) (by rw[<-vU (h.nb k N),B];simp) (λj hj=>by rw[<-vU (h.nb j xaa)];grind)
theorem pE{W}(h:WS W P R u1 u2 u3 u4 bs st)(J:∀j,j<bs.length->(bs.getD j hK).nm≠s):i8 st.names s=none:=
 rT (λb:Bdg=>b.nm==s) (.val [] 0) st.names (λj hj=>by rw[<-vU (h.nb j (hO h.nl hj))];exact yax (J j (hO h.nl hj)))
theorem xS{W}(h:WS W P R u1 u2 u3 u4 bs st)(aq:st.names.length<=5000)(a6 aS cL u)(bJ:LcR (Mst P u1 u2 u3 u4) W a6 aS u)(hn:aS<=5000)(t):
  Calls prog 145 #[hB P,.slice a6 aS cL,jc t] W (VlO W P (Mst P u1 u2 u3 u4) (fC st u t)):=by
 obtain⟨aW,X,bF⟩:=t;have aA:V _:=iq W aW X bF;have aj:=ez 0 0 W (.cells #[eN aW,hD X,eN bF] 92);have bY:V _:=aj;have bH:V _:=h.keep aj;have ca:V _:=bJ.keep aj;have f:V _:=bJ.len;have aX:bs.length<=100000:=hR h.nl
 have bL:V (fC st _ ⟨aW,_,_⟩=match Bk u bF with|some v=>.ok v|none=>match i8 _ bF with|some (.val _ v)=>.ok v|_=>.error (3,X)):=rfl;generalize fC st _ _=r at bL⊢;unfold jc;simp only;clear aj h bJ;go_enter func145,ntmps145;go_wp2_with fail;change Code.wp _ _ _ _ (W.alloc (.cells _ 92));generalize W.alloc _=az at aA bY bH ca⊢;go_loopw [7] (λaD W'=>∃k:Nat,k<=aS/\aD=hD k/\V (Kept 0 0 az W')/\V (∀j,j<k->(u.getD j ([],0)).1≠bF)) (λaD _=>aS-(intOf aD).toNat)
 case atStart=>exact⟨0,yae,rfl,hL,λj hj=>by omega⟩
 case round=>
  obtain⟨k,N,rfl,aw,ax⟩:=hrel;by_cases aC:k<aS
  ·obtain⟨g,off,rfl,_,aR,ad⟩:=(ca.o.keep aw.o).at_ xaa;obtain⟨c1,_⟩:=ad k aC;have c2:=(aA.o.keep aw.o).c2
   have bc:V (∀W',Kept 0 0 _ W'->W'.cell? _=some _):=λW' ai=>by
    obtain⟨aB,F,e,_,_,z⟩:=(ca.o.keep ai).at_ xaa
    cases e
    exact(z k aC).2
   generalize ak:(u.getD k _).1=x at c1;have bq:V _:=ak;clear ak ad;go_upto_region 4 with fail;go_quiet (fail)
   have b0:V _:=Kept.trans aw.o (eK 0 0 _ nq);clear c1 c2 aw aR;generalize wr.drewN _=bj at b0⊢;cases am:(x==bF)
   ·have U:V (∀j,j<k+1->(u.getD j _).1≠bF):=λj hj=>by
     by_cases c:j=k
     ·subst c;rw[bq.o];intro d;rw[d]at am;simp at am
     ·exact ax.o j xaa
    go_wp2_with fail;go_roundw;exact⟨k+1,by omega,by go_num,b0,U⟩;simp[intOf];omega
   have U:V (r=.ok (u.getD k ([],0)).2):=by
    show _=_
    have ab:Bk u bF=some (u.getD k ([],0)).2:=by
     unfold Bk;rw[qk (λb:List _×Nat=>b.1==bF) _ _ k (hO f.o aC) (by show((u.getD k ([],0)).1==bF)=true;rw[bq.o];exact am) (λj hj=>yax (ax.o j hj))];rfl
    rw[bL.o,ab]
   have c3:=bc.o _ b0.o;clear bc;go_wp2_with fail;go_ret;rw[U.o];exact⟨rfl,bY.o.trans b0.o⟩
  obtain rfl:k=aS:=xaa
  have m:V (Bk u bF=none):=by
   show _=_;unfold Bk;rw[rT (λb:List _×Nat=>b.1==bF) _ _ (λj hj=>yax (ax.o j (by rw[f.o]at hj;exact hj)))];rfl
  have bo:V _:=bH.o.keep aw.o;have cy:V _:=aA.o.keep aw.o;have au:V _:=bY.o.trans aw.o;have c2:=cy.o.c2;have c1:=cy.o.c1;have aV:V _:=rS bo.o.c3 bo.o.r4 aX bF;have c3:=bo.o.c3;have bm:V _:=jG bo.o.c5 bo.o.c6 bo.o.fr 3 X (Mst P u1 u2 u3 u4) (.inl rfl);have B:V _:=mA bo.o.r4;obtain⟨a4,bV,I⟩:=jH bo.o.r4;clear aw ax ca aA;subst I;go_upto_region 7 with (go_at_call 119;refine yaj aV.o ?_;rintro e ag ⟨i,rfl,bp,an⟩;obtain rfl:=an.symm);rcases bp with⟨ah,b2,rfl,cc,ce⟩|⟨rfl,hn⟩
  ·have a8:V _:=oS bo.o b2 cc ce;have l:V _:=bo.o.nb _ b2;obtain⟨bO,cp,e4,_,_,_,bP⟩:=B.o xaa;cases e4;obtain⟨_,d1,d2,_,_⟩:=bP _ b2;generalize bb:bs.length=nn at*;generalize bs.getD ah _=b at d1 d2 l;generalize st.names.getD ah _=aK at a8 l;have bd:¬((ah:Int)<0):=xaa;cases aK with
   |val af v=>
    have w:=l.o.2.1;have cu:=l.o.2.2;rw[w]at d1;rw[cu]at d2;have U:V (r=.ok v):=by show _=_;rw[bL.o,m.o,a8.o]
    clear w cu cc ce bP bb l B;go_wp2_with fail;go_ret;rw[U.o];exact⟨rfl,au.o⟩
   |fn af ar Q=>
    have w:=l.o.2.1;rw[w]at d1;have U:V (r=.error (3,X)):=by show _=_;rw[bL.o,m.o,a8.o]
    clear w cc ce bP bb l B d2;go_wp2_with (go_at_call 117;refine yaj bm.o ?_;rintro e a7 ⟨rfl,S⟩);go_ret;rw[U.o];exact⟨rfl,S.c5,S.c6,(Mv.of au.o).bad S.chg⟩
  have U:V (r=.error (3,X)):=by show _=_;rw[bL.o,m.o,pE bo.o hn]
  clear hn B;go_wp2_with (go_at_call 117;refine yaj bm.o ?_;rintro e a7 ⟨rfl,S⟩);go_ret;rw[U.o];exact⟨rfl,S.c5,S.c6,(Mv.of au.o).bad S.chg⟩
