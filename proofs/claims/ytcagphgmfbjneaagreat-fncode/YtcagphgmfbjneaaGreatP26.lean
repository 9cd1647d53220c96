import Derived.Test.YtcagphgmfbjneaaGreatP12
import Derived.Test.YtcagphgmfbjneaaGreatP25
namespace Go.Proofs.Z
variable{Zp:Prop}
open Tryz
set_option maxRecDepth 1000000
set_option maxHeartbeats 0
section
open Go.RowKit Flt
variable{ts:List Tok}
def kIn:List UInt8:=[105,110]
def Kt:List UInt8:=[108,101,116]
def Ku:List UInt8:=[111,117,116]
def GO:List UInt8:=[100,101,102]
def Kv:List UInt8:=[114,101,112,101,97,116]
theorem Kw{n es}(h:Pr n es ts):∀t∈ts,t.sym≠[59]:=by
 induction h<;>(try simp only[List.forall_mem_append,List.forall_mem_cons])<;>grind[ik,kO,gH,zi,FJ,Bf,JQ,zj,vO,qy,Du,Cq,JR]
inductive Sm where
 |inS (n l:Tok)
 |letS (n:Tok) (e:Ex)
 |rep (i n:Tok) (e:Ex)
 |defS (n:Tok) (ps:List Tok) (e:Ex)
 |outS (k:Tok) (e:Ex)
inductive PPm:List Tok->List Tok->Prop
 |one {t:Tok}:t.sym=gH->PPm [t] [t]
 |more {ps ts:List Tok}{c t:Tok}:PPm ps ts->c.sym=[44]->t.sym=gH->PPm (ps++[t]) (ts++[c,t])
theorem GP{ps}(h:PPm ps ts):∀t∈ts,t.sym=gH\/t.sym=[44]:=by
 induction h<;>grind
inductive PSm:Sm->List Tok->Prop
 |inS {k n c l:Tok}:k.sym=kIn->n.sym=gH->c.sym=[58]->l.sym=ik->PSm (.inS n l) [k,n,c,l]
 |letS {k n q:Tok}{e:Ex}{ts:List Tok}:k.sym=Kt->n.sym=gH->q.sym=[61]->Pr 2 [e] ts->PSm (.letS n e) (k::n::q::ts)
 |rep {k i n q:Tok}{e:Ex}{ts:List Tok}:k.sym=Kv->i.sym=ik->n.sym=gH->q.sym=[61]->Pr 2 [e] ts->PSm (.rep i n e) (k::i::n::q::ts)
 |def0 {k n l r q:Tok}{e:Ex}{ts:List Tok}:k.sym=GO->n.sym=gH->l.sym=[40]->r.sym=[41]->q.sym=[61]->Pr 2 [e] ts->PSm (.defS n [] e) (k::n::l::r::q::ts)
 |defS {k n l r q:Tok}{e:Ex}{ps us ts:List Tok}:k.sym=GO->n.sym=gH->l.sym=[40]->PPm ps us->r.sym=[41]->q.sym=[61]->Pr 2 [e] ts->PSm (.defS n ps e) (k::n::l::(us++r::q::ts))
 |outS {k:Tok}{e:Ex}{ts:List Tok}:k.sym=Ku->Pr 2 [e] ts->PSm (.outS k e) (k::ts)
theorem Kx{s}(h:PSm s ts):∀t∈ts,t.sym≠[59]:=by
 cases h<;>grind[Kw,GP,kIn,Kt,Kv,GO,Ku,ik,gH]
inductive PGm:List Sm->List Tok->Prop
 |nil:PGm [] []
 |cons {s:Sm}{ss:List Sm}{ts us:List Tok}{c:Tok}:PSm s ts->c.sym=[59]->PGm ss us->PGm (s::ss) (ts++c::us)
theorem v8{n}:∀(k:Nat) (ts:List Tok),ts.length<=k->∀r ps af,PPm ps af->ft n ts (gq::r)=-1->∃a us au,ts=us++au/\PPm a (af++us)/\ft n au r=-1
 |k,ts,O,r,ps,af,aQ,X=>by
  rw[iy xab]at X
  by_cases c:hdS ts=[44]
  ·rw[show fY gq (hdS ts)=[[44],[110,97,109,101],gq] by rw[c];rfl]at X
   obtain⟨o,us,rfl,ho,X⟩:=eO xab X
   obtain⟨t,d,rfl,ht,X⟩:=eO xab X
   match k,O with
   |0,O=>simp at O
   |k+1,O=>
    obtain⟨a,G,au,rfl,h3,X⟩:=v8 k d (by simp at O;omega) r (ps++[t]) (af++[o,t]) (.more aQ ho ht) X
    exact⟨a,o::t::G,au,by simp,by simpa using h3,X⟩
  ·rw[show fY gq (hdS ts)=[] by
    unfold fY
    rw[h6 xab,h6 xab,h7 rfl,h6 c]]at X
   exact⟨ps,[],ts,rfl,by simpa using aQ,X⟩
theorem zV{n}:∀(k:Nat) (ts:List Tok),ts.length<=k->ft n ts [im]=-1->∃ss,PGm ss ts
 |k,ts,O,X=>by
  rw[iy xab]at X
  unfold fY at X
  rw[h7 rfl]at X
  generalize hdS ts=s at X
  have a:∀{us:List Tok},us.length<ts.length->ft n us [im]=-1->∃ss,PGm ss us:=λ{us} ai h=>by
   match k,O with
   |0,O=>omega
   |k+1,O=>exact zV k us xaa h
  by_cases az:s=[105,110]
  ·rw[h7 az]at X
   obtain⟨an,us,rfl,F,X⟩:=eO xab X
   obtain⟨av,us,rfl,h2,X⟩:=eO xab X
   obtain⟨aZ,us,rfl,h3,X⟩:=eO xab X
   obtain⟨bW,us,rfl,h4,X⟩:=eO xab X
   obtain⟨a2,us,rfl,bK,X⟩:=eO xab X
   obtain⟨ss,aK⟩:=a yag X
   exact⟨_,.cons (ts:=[an,av,aZ,bW]) (.inS F h2 h3 h4) bK aK⟩
  rw[h6 az]at X
  by_cases b5:s=[108,101,116]
  ·rw[h7 b5]at X
   obtain⟨an,us,rfl,F,X⟩:=eO xab X
   obtain⟨av,us,rfl,h2,X⟩:=eO xab X
   obtain⟨aZ,us,rfl,h3,X⟩:=eO xab X
   obtain⟨e,us,au,rfl,h4,X⟩:=qJ X
   obtain⟨a2,b,rfl,bK,X⟩:=eO xab X
   obtain⟨ss,aK⟩:=a yag X
   exact⟨_,.cons (ts:=an::av::aZ::us) (.letS F h2 h3 h4) bK aK⟩
  rw[h6 b5]at X
  by_cases a0:s=[114,101,112,101,97,116]
  ·rw[h7 a0]at X
   obtain⟨an,us,rfl,F,X⟩:=eO xab X
   obtain⟨av,us,rfl,h2,X⟩:=eO xab X
   obtain⟨aZ,us,rfl,h3,X⟩:=eO xab X
   obtain⟨bW,us,rfl,h4,X⟩:=eO xab X
   obtain⟨e,us,au,rfl,b3,X⟩:=qJ X
   obtain⟨a2,b,rfl,bK,X⟩:=eO xab X
   obtain⟨ss,aK⟩:=a yag X
   exact⟨_,.cons (ts:=an::av::aZ::bW::us) (.rep F h2 h3 h4 b3) bK aK⟩
  rw[h6 a0]at X
  by_cases b9:s=[100,101,102]
  ·rw[h7 b9]at X
   obtain⟨an,us,rfl,F,X⟩:=eO xab X
   obtain⟨av,us,rfl,h2,X⟩:=eO xab X
   obtain⟨aZ,us,rfl,h3,X⟩:=eO xab X
   have X:ft n us (lw::[41]::[61]::gI::[59]::[im])=-1:=X
   rw[iy xab]at X
   by_cases c:hdS us=[110,97,109,101]
   ·rw[show fY lw (hdS us)=[[110,97,109,101],gq] by rw[c];rfl]at X
    obtain⟨t,d,rfl,ht,X⟩:=eO xab X
    obtain⟨ps,G,au,rfl,aQ,X⟩:=v8 d.length d yad _ [t] [t] (.one ht) X
    obtain⟨bY,us,rfl,b3,X⟩:=eO xab X
    obtain⟨a5,us,rfl,bZ,X⟩:=eO xab X
    obtain⟨e,us,au,rfl,ar,X⟩:=qJ X
    obtain⟨a2,b,rfl,bK,X⟩:=eO xab X
    obtain⟨ss,aK⟩:=a yag X
    have:=PGm.cons (ts:=an::av::aZ::(t::G++bY::a5::us)) (.defS F h2 h3 aQ b3 bZ ar) bK aK
    exact⟨_,by simpa using this⟩
   ·rw[show fY lw (hdS us)=[] by
     unfold fY
     rw[h6 xab,h7 rfl,h6 c]]at X
    obtain⟨bY,us,rfl,b3,X⟩:=eO xab X
    obtain⟨a5,us,rfl,bZ,X⟩:=eO xab X
    obtain⟨e,us,au,rfl,ar,X⟩:=qJ X
    obtain⟨a2,b,rfl,bK,X⟩:=eO xab X
    obtain⟨ss,aK⟩:=a yag X
    exact⟨_,.cons (ts:=an::av::aZ::bY::a5::us) (.def0 F h2 h3 b3 bZ ar) bK aK⟩
  rw[h6 b9]at X
  by_cases bN:s=[111,117,116]
  ·rw[h7 bN]at X
   obtain⟨an,us,rfl,F,X⟩:=eO xab X
   obtain⟨e,us,au,rfl,h4,X⟩:=qJ X
   obtain⟨a2,b,rfl,bK,X⟩:=eO xab X
   obtain⟨ss,aK⟩:=a yag X
   exact⟨_,.cons (ts:=an::us) (.outS F h4) bK aK⟩
  rw[h6 bN]at X
  cases ts with
  |nil=>exact⟨_,.nil⟩
  |cons t ts=>
   rw[List.nil_append,ft,nd]at X
   simp only at X
   omega
theorem Ky{n}(h:ft n ts [im]=-1):∃ss,PGm ss ts:=zV ts.length ts yad h
inductive Bdg where
 |val (nm:List UInt8) (v:Nat)
 |fn (nm:List UInt8) (ps:List Tok) (e:Ex)
def Bdg.nm:Bdg->List UInt8
 |.val n _=>n
 |.fn n _ _=>n
structure LSt where
 ins:List Int
 vs:List Vl
 outs:List Int
 names:List Bdg
 calls:Nat
abbrev GQ:=Int×Nat
abbrev Rs(α:Type):=Except GQ α
def fI(st:LSt)(v:Vl)(p:Nat):Rs (LSt×Nat):=if kz (st.vs++[v])=true then .error (5,p)else .ok ({st with vs:=st.vs++[v]},st.vs.length)
def eW(st:LSt)(i:Nat):Int:=(st.vs.getD i h9).len
def iN(ns:List Bdg)(s:List UInt8):Option Bdg:=ns.find? λb=>b.nm==s
def BE(loc:List (List UInt8×Nat))(s:List UInt8):Option Nat:=(loc.find? λb=>b.1==s).map (·.2)
def fi(st:LSt)(loc:List (List UInt8×Nat))(t:Tok):Rs Nat:=
 match BE loc t.text with
 |some v=>.ok v
 |none=>match iN st.names t.text with
  |some (.val _ v)=>.ok v
  |_=>.error (3,t.pos)
def pU(st:LSt)(xs:List Nat):Int:=xs.foldl (λn i=>if n<eW st i then eW st i else n) 1
def iu(n:Int)(p:Nat):LSt->List Nat->Rs (LSt×List Nat)
 |st,[]=>.ok (st,[])
 |st,i::r=>if eW st i<n then
   match fI st (eJ 10 n (i:Int) 0 0) p with
   |.error f=>.error f
   |.ok (st1,j)=>match iu n p st1 r with
    |.error f=>.error f
    |.ok (st2,js)=>.ok (st2,j::js)
  else match iu n p st r with
   |.error f=>.error f
   |.ok (st2,js)=>.ok (st2,i::js)
def jT(st:LSt)(xs:List Nat)(p:Nat):Rs (LSt×List Nat):=if xs.all (λi=>eW st i==pU st xs||eW st i==1)=true then iu (pU st xs) p st xs else .error (4,p)
def ii(t:List UInt8):Int:=t.foldl (λv b=>v*10+((b.toNat:Int)-48)) 0
def oL(t:List UInt8):Nat:=cop .quo (floatOfInt .f64 (nds (gU t)).1) (floatOfInt .f64 (nds (gU t)).2.1)
def qL(s:List UInt8):Int:=if s=[43]then 2 else if s=[45]then 3 else if s=[42]then 4 else 5
def iC(st:LSt)(m:List Vl×Int)(p:Nat):Rs (LSt×Nat):=if kz m.1=true then .error (5,p)else .ok ({st with vs:=m.1},m.2.toNat)
def mi(st:LSt)(k:Tok)(a:Nat)(n:Tok):Rs (LSt×Nat):=
 if k.sym=qy then
  if eW st a<=ii n.text then .error (4,n.pos)else fI st (eJ 11 1 (a:Int) 0 (ii n.text)) k.pos
 else if eW st a≠1 then .error (4,k.pos)
 else if ii n.text<1\/1000<ii n.text then .error (4,n.pos)else fI st (eJ 10 (ii n.text) (a:Int) 0 0) k.pos
def mj(st:LSt)(k:Tok)(a:Nat)(i n:Tok):Rs (LSt×Nat):=
 if eW st a≠1 then .error (4,k.pos)
 else if ii n.text<1\/1000<ii n.text then .error (4,n.pos)
 else if ii n.text<=ii i.text then .error (4,i.pos)else fI st (eJ 12 (ii n.text) (a:Int) 0 (ii i.text)) k.pos
def qM(st:LSt)(o:Tok)(a b:Nat):Rs (LSt×Nat):=
 match jT st [a,b] o.pos with
 |.error f=>.error f
 |.ok (s2,f)=>fI s2 (eJ (qL o.sym) (eW s2 (f.getD 0 0)) (f.getD 0 0:Nat) (f.getD 1 0:Nat) 0) o.pos
def qN(st:LSt)(k:Tok)(a b:Nat):Rs (LSt×Nat):=
 match jT st [a,b] k.pos with
 |.error f=>.error f
 |.ok (s2,f)=>
  if k.sym=Bf then fI s2 (eJ 7 (eW s2 (f.getD 0 0)) (f.getD 0 0:Nat) (f.getD 1 0:Nat) 0) k.pos
  else match fI s2 (eJ 4 (eW s2 (f.getD 0 0)) (f.getD 0 0:Nat) (f.getD 1 0:Nat) 0) k.pos with
   |.error f=>.error f
   |.ok (s3,p)=>fI s3 (eJ 9 1 (p:Int) 0 0) k.pos
def ye(st:LSt)(k:Tok)(a b c:Nat):Rs (LSt×Nat):=
 match jT st [a,b,c] k.pos with
 |.error f=>.error f
 |.ok (s2,f)=>fI s2 (eJ 8 (eW s2 (f.getD 0 0)) (f.getD 0 0:Nat) (f.getD 1 0:Nat) (f.getD 2 0:Nat)) k.pos
def pN(st:LSt)(k:Tok)(a x:Nat):Rs (LSt×Nat):=if eW st a≠1 then .error (4,k.pos)else iC st (grM st.vs a x) k.pos
def pV(st:LSt)(k:Tok)(a x d:Nat):Rs (LSt×Nat):=
 if eW st d=1/\1<eW st x then
  match fI st (eJ 10 (eW st x) (d:Int) 0 0) k.pos with
  |.error f=>.error f
  |.ok (s2,d2)=>iC s2 (jR s2.vs a x d2) k.pos
 else if eW st d≠eW st x then .error (4,k.pos)else iC st (jR st.vs a x d) k.pos
abbrev Loc:=List (List UInt8×Nat)
def ju(r:Option (Rs (LSt×Nat)))(f:LSt->Nat->Option (Rs (LSt×Nat))):Option (Rs (LSt×Nat)):=
 match r with
 |none=>none
 |some (.error e)=>some (.error e)
 |some (.ok (st,a))=>f st a
def fQ(ev:LSt->Ex->Option (Rs (LSt×Nat))):LSt->List Ex->Option (Rs (LSt×List Nat))
 |st,[]=>some (.ok (st,[]))
 |st,e::r=>match ev st e with
  |none=>none
  |some (.error f)=>some (.error f)
  |some (.ok (s1,a))=>match fQ ev s1 r with
   |none=>none
   |some (.error f)=>some (.error f)
   |some (.ok (s2,xs))=>some (.ok (s2,a::xs))
def eM:Nat->LSt->Loc->Ex->Option (Rs (LSt×Nat))
 |0,_,_,_=>none
 |_+1,st,_,.num t=>some (fI st ⟨1,1,0,0,0,oL t.text⟩ t.pos)
 |_+1,st,loc,.name t=>some (match fi st loc t with|.error f=>.error f|.ok v=>.ok (st,v))
 |f+1,st,loc,.neg o e=>ju (eM f st loc e) λs a=>some (fI s (eJ 6 (eW s a) (a:Int) 0 0) o.pos)
 |f+1,st,loc,.bin o a b=>ju (eM f st loc a) λs1 x=>ju (eM f s1 loc b) λs2 y=>some (qM s2 o x y)
 |f+1,st,loc,.call t es=>
  match iN st.names t.text with
  |some (.fn _ ps body)=>
   if ps.length=es.length then
    match fQ (λs e=>eM f s loc e) st es with
    |none=>none
    |some (.error e)=>some (.error e)
    |some (.ok (s1,xs))=>if 500<=s1.calls then some (.error (5,t.pos))else eM f {s1 with calls:=s1.calls+1} ((ps.map (·.text)).zip xs) body
   else some (.error (3,t.pos))
  |_=>some (.error (3,t.pos))
 |f+1,st,loc,.key1 k e=>ju (eM f st loc e) λs a=>some (if k.sym=zi then fI s (eJ 13 (eW s a) (a:Int) 0 0) k.pos else fI s (eJ 9 1 (a:Int) 0 0) k.pos)
 |f+1,st,loc,.key2 k a b=>ju (eM f st loc a) λs1 x=>ju (eM f s1 loc b) λs2 y=>some (qN s2 k x y)
 |f+1,st,loc,.key3 k a b c=>ju (eM f st loc a) λs1 x=>ju (eM f s1 loc b) λs2 y=>ju (eM f s2 loc c) λs3 z=>some (ye s3 k x y z)
 |f+1,st,loc,.keyN k e n=>ju (eM f st loc e) λs a=>some (mi s k a n)
 |f+1,st,loc,.put k e i n=>ju (eM f st loc e) λs a=>some (mj s k a i n)
 |f+1,st,loc,.grad k e x=>match fi st loc x with
  |.error q=>some (.error q)
  |.ok v=>ju (eM f st loc e) λs a=>some (pN s k a v)
 |f+1,st,loc,.jvp k e x d=>match fi st loc x with
  |.error q=>some (.error q)
  |.ok v=>ju (eM f st loc e) λs1 a=>ju (eM f s1 loc d) λs2 y=>some (pV s2 k a v y)
end
section
open Go.RowKit Flt
attribute[local go_sem] eE eD eC
variable{w H z:World}{x y:List UInt8}{M':Nat->Prop}{P I g off cap:Nat}{v u1 u2 u3 u4:Value}{a:Option Addr}{ts:List Tok}{vs:List Vl}{st:LSt}
structure Mv(M:Nat->Prop)(W:World)(M':Nat->Prop)(W':World):Prop where
 chg:Chg M W W'
 new:∀b,M' b->M b\/W.heap.size<=b
theorem Mv.refl(M W):Mv M W M W:=⟨(Kept.refl 0 0 W).chg,λ_ h=>.inl h⟩
theorem Mv.keep{M W ax bo}(h:Mv M W M' ax)(k:Kept 0 0 ax bo):Mv M W M' bo:=
 ⟨⟨k.os.trans h.chg.os,k.tape.trans h.chg.tape,k.output.trans h.chg.output,yao h.chg.size k.size,λi hi ag=>(k.block i (yak hi h.chg.size) xaa).trans (h.chg.block i hi ag)⟩,h.new⟩
theorem Mv.of{M W}(k:Kept 0 0 W H):Mv M W M H:=(Mv.refl M W).keep k
theorem Mv.trans{M d W}(h:Mv M W M' H)(k:Mv M' H d z):Mv M W d z where
 chg:=⟨k.chg.os.trans h.chg.os,k.chg.tape.trans h.chg.tape,k.chg.output.trans h.chg.output,yao h.chg.size k.chg.size,λi hi ag=>(k.chg.block i (yak hi h.chg.size) (λc=>(h.new i c).elim ag (λc=>by omega))).trans (h.chg.block i hi ag)⟩
 new:=λb hb=>(k.new b hb).elim (h.new b) (λc=>.inr (yao h.chg.size c))
theorem Mv.bad{M W}(h:Mv M W M' H)(k:Chg M' H z):Chg M W z:=
 ⟨k.os.trans h.chg.os,k.tape.trans h.chg.tape,k.output.trans h.chg.output,yao h.chg.size k.size,λi hi ag=>(k.block i (yak hi h.chg.size) (λc=>(h.new i c).elim ag (λc=>by omega))).trans (h.chg.block i hi ag)⟩
structure TkR(M:Nat->Prop)(W:World)(a:Option Addr)(n:Nat)(ts:List Tok):Prop where
 len:ts.length=n
 at_:0<n->∃g off,a=some ⟨g,off,none⟩/\¬M g/\TkA W g off n ts
theorem TkA.keepC{B S n}(h:TkA w g off n ts)(k:Chg S w B)(aO:¬S g):TkA B g off n ts:=
 ⟨h.len,yak h.lt k.size,λj hj=>(k.cell (p:=⟨g,off+j*3,none⟩) h.lt aO).trans (h.c0 j hj),λj hj=>(k.cell (p:=⟨g,off+j*3+1,none⟩) h.lt aO).trans (h.c1 j hj),λj hj=>(k.cell (p:=⟨g,off+j*3+2,none⟩) h.lt aO).trans (h.c2 j hj)⟩
theorem TkR.mv{M W n}(h:TkR M W a n ts)(k:Mv M W M' H):TkR M' H a n ts:=
 ⟨h.len,λag=>by
  obtain⟨g,off,e,F,h2⟩:=h.at_ ag
  exact⟨g,_,e,λc=>(k.new g c).elim F (λc=>ix h2.lt),h2.keepC k.chg F⟩⟩
theorem uA(ts:List Tok)(i j k)(O:k<j-i):((ts.drop i).take (j-i)).getD k ih=ts.getD (i+k) ih:=by
 simp_all
theorem TkA.cut{n}(h:TkA w g off n ts){i j}(hj:j<=n):TkA w g (off+i*3) (j-i) ((ts.drop i).take (j-i)):=by
 have ai:=h.len;refine⟨by grind,h.lt,λk O=>?_,λk O=>?_,λk O=>?_⟩
 ·rw[uA _ i j k O,show off+i*3+k*3=off+(i+k)*3 by omega];exact h.c0 _ xaa
 ·rw[uA _ i j k O,show off+i*3+k*3=off+(i+k)*3 by omega];exact h.c1 _ xaa
 rw[uA _ i j k O,show off+i*3+k*3=off+(i+k)*3 by omega];exact h.c2 _ xaa
structure Dgs(l:List UInt8):Prop where
 len:l.length<=15
 d:∀k,k<l.length->48<=bt l k/\bt l k<=57
def kD(x:List UInt8):Prop:=xw (gU x)/\(gU x).countP dig<=15
structure TsOK(ts:List Tok):Prop where
 n5:ts.length<=5000
 ti:∀t∈ts,t.sym=ik->Dgs t.text
 tn:∀t∈ts,(t.sym=ik\/t.sym=kO)->kD t.text
structure Bc where
 nm:List UInt8
 fn:Bool
 val:Int
 pa:Option Addr
 pn:Nat
 pc:Nat
 ba:Option Addr
 bn:Nat
 bc:Nat
def ip:Bc:=⟨[],false,0,none,0,0,none,0,0⟩
def Bc.cells(b:Bc):List Value:=[eK b.nm,.bool b.fn,.int .i64 b.val,.slice b.pa b.pn b.pc,.slice b.ba b.bn b.bc]
def bcF:List Bc->List Value
 |[]=>[]
 |b::r=>b.cells++bcF r
theorem yg(a b):bcF (a++b)=bcF a++bcF b:=by
 induction a<;>grind[bcF]
theorem yh(b):bcF [b]=b.cells:=by simp[bcF]
theorem GR:∀(a:List Bc) (k j:Nat),k<a.length->j<5->(bcF a)[k*5+j]? =(a.getD k ip).cells[j]?
 |x::r,0,j,_,hj=>by
  grind[bcF,Bc.cells]
 |x::r,k+1,j,O,hj=>by
  have ap:x.cells.length=5:=rfl
  rw[bcF,yas xaa,ap,show(k+1)*5+j-5=k*5+j by omega]
  exact GR r k j (by grind) hj
def BcOK(M:Nat->Prop)(W:World)(b:Bc):Bdg->Prop
 |.val nm v=>b.nm=nm/\b.fn=false/\b.val=(v:Int)
 |.fn nm ps e=>b.nm=nm/\b.fn=true/\TkR M W b.pa b.pn ps/\∃ts,Pr 2 [e] ts/\(TsOK ts/\b.bn<=b.bc)/\TkR M W b.ba b.bn ts
theorem BcOK.mv{M W b d}(h:BcOK M W b d)(k:Mv M W M' H):BcOK M' H b d:=by
 cases d with
 |val aS v=>exact h
 |fn aS ps e=>
  obtain⟨F,h2,h3,ts,h4,bK,b3⟩:=h;exact⟨F,h2,h3.mv k,_,h4,bK,b3.mv k⟩
def Mst(P:Nat)(u1 u2 u3 u4:Value)(b:Nat):Prop:=b=P\/u1.ownBlock=some b\/u2.ownBlock=some b\/u3.ownBlock=some b\/u4.ownBlock=some b
structure WS(W:World)(P B:Nat)(u1 u2 u3 u4:Value)(bs:List Bc)(st:LSt):Prop where
 lt:P<W.heap.size
 fr:∀o,W.frozen? ⟨P,o,none⟩=false
 c0:W.cell? ⟨P,0,none⟩=some u1
 c1:W.cell? ⟨P,1,none⟩=some u2
 c2:W.cell? ⟨P,2,none⟩=some u3
 c3:W.cell? ⟨P,3,none⟩=some u4
 c4:W.cell? ⟨P,4,none⟩=some (.int .i64 (st.calls:Int))
 c5:W.cell? ⟨P,5,none⟩=some (.int .i64 0)
 c6:W.cell? ⟨P,6,none⟩=some (.int .i64 0)
 r1:W.ownsRow B 3 1 u1 st.ins.length (st.ins.map (Value.int .i64))
 r2:W.ownsRow B 86 6 u2 st.vs.length (fN st.vs)
 r3:W.ownsRow B 3 1 u3 st.outs.length (st.outs.map (Value.int .i64))
 r4:W.ownsRow B 162 5 u4 bs.length (bcF bs)
 np:u1.ownBlock≠some P/\u2.ownBlock≠some P/\u3.ownBlock≠some P/\u4.ownBlock≠some P
 ap:Apart u1 u2/\Apart u1 u3/\Apart u1 u4/\Apart u2 u3/\Apart u2 u4/\Apart u3 u4
 nl:bs.length=st.names.length
 nb:∀i,i<bs.length->BcOK (Mst P u1 u2 u3 u4) W (bs.getD i ip) (st.names.getD i (.val [] 0))
 sz:B<=P
theorem Apart.symm{u}(h:Apart u v):Apart v u:=λk O a6=>h k a6 O
theorem WS.keep{W bs}(h:WS W P I u1 u2 u3 u4 bs st)(k:Kept 0 0 W H):WS H P I u1 u2 u3 u4 bs st:=by
 have e:∀o,_:=λo=>k.cell (p:=⟨P,o,none⟩) h.lt xaa;exact⟨yak h.lt k.size,λo=>(k.frozen h.lt xaa).trans (h.fr o),(e 0).trans h.c0,(e 1).trans h.c1,(e 2).trans h.c2,(e 3).trans h.c3,(e 4).trans h.c4,(e 5).trans h.c5,(e 6).trans h.c6,eN h.r1 k,eN h.r2 k,eN h.r3 k,eN h.r4 k,h.np,h.ap,h.nl,λi hi=>(h.nb i hi).mv (Mv.of k),h.sz⟩
def TrO(W:World)(P B:Nat)(u1 u2 u3 u4:Value)(bs:List Bc)(r:Rs (LSt×Nat))(e:Ending)(W':World):Prop:=
 match r with
 |.error (c,p)=>e=.returned (.int .i64 (-1))/\W'.cell? ⟨P,5,none⟩=some (.int .i64 c)/\W'.cell? ⟨P,6,none⟩=some (.int .i64 (p:Int))/\Chg (Mst P u1 u2 u3 u4) W W'
 |.ok (st,v)=>e=.returned (.int .i64 (v:Int))/\∃v1 v2 v3 v4,WS W' P B v1 v2 v3 v4 bs st/\Mv (Mst P u1 u2 u3 u4) W (Mst P v1 v2 v3 v4) W'
structure Bad(W:World)(P:Nat)(M:Nat->Prop)(c:Int)(p:Nat)(W':World):Prop where
 c5:W'.cell? ⟨P,5,none⟩=some (.int .i64 c)
 c6:W'.cell? ⟨P,6,none⟩=some (.int .i64 (p:Int))
 chg:Chg M W W'
theorem jw{W}(bK:W.cell? ⟨P,5,none⟩=some (h1 0))(b3:W.cell? ⟨P,6,none⟩=some (h1 0))(fr:∀o,W.frozen? ⟨P,o,none⟩=false)(c)(p:Nat)(M)(bJ:M P):
  Calls prog 111 #[hZ P,h1 c,h1 p] W λe H=>e=.returned (h1 (-1))/\Bad W P M c p H:=by
 have d:=fr 5;have Y:=fr 6;have R1:V (((W.setCell _ _).setCell ⟨P,6,_⟩ (h1 p)).cell? _=some (h1 c)):=(eV _ _ _ _ _ _ (.inr xaa)).trans (fy _ _ _ _ _ bK);have R2:V (((W.setCell ⟨P,5,_⟩ (h1 c)).setCell _ (h1 p)).cell? _=some _):=fy _ _ _ _ _ ((eV _ _ _ _ _ _ (.inr xaa)).trans b3);have R3:V _:=Chg.andThen ((eU W ⟨P,5,none⟩ (h1 c) yac).chg1 bJ) ((eU _ ⟨P,6,none⟩ (h1 p) yac).chg1 bJ);clear fr bJ;go_enter func111,ntmps111;go_wp2;go_ret;exact⟨rfl,R1.o,R2.o,R3.o⟩
theorem ml{W:World}{bs}(f:W.ownsRow I 162 5 v bs.length (bcF bs))(h:0<bs.length):∃g cap,v=h0 g bs.length cap/\I<=g/\g<W.heap.size/\bs.length<=cap/\
  ∀k,k<bs.length->W.cell? ⟨g,k*5,none⟩=some (eK (bs.getD k ip).nm)/\W.cell? ⟨g,k*5+1,none⟩=some (.bool (bs.getD k ip).fn)/\W.cell? ⟨g,k*5+2,none⟩=some (h1 (bs.getD k ip).val)/\W.cell? ⟨g,k*5+3,none⟩=some (.slice (bs.getD k ip).pa (bs.getD k ip).pn (bs.getD k ip).pc)/\W.cell? ⟨g,k*5+4,none⟩=some (.slice (bs.getD k ip).ba (bs.getD k ip).bn (bs.getD k ip).bc):=by
 rcases f.2 with⟨_,c⟩|⟨g,cap,ad,rfl,U,aV,aa,_,ct,bX⟩
 ·omega
 have aK:g<W.heap.size:=by grind
 have Y:∀k j,k<bs.length->j<5->W.cell? _=(bs.getD k _).cells[j]?:=λk j O hj=>by
  rw[cell_of_row W g _ _ _ _ aV,<-Array.getElem?_toList]
  have:(ad.toList.take (bs.length*5))[k*5+j]? =(bcF bs)[k*5+j]?:=by rw[bX]
  rw[List.getElem?_take_of_lt xaa]at this
  rw[this]
  exact GR _ k j O hj
 exact⟨g,_,rfl,U,aK,aa,λk O=>⟨Y k 0 O xaa,Y k 1 O xaa,Y k 2 O xaa,Y k 3 O xaa,Y k 4 O xaa⟩⟩
theorem jy{W:World}{bs}(f:W.ownsRow I 162 5 v bs.length (bcF bs)):∃a cap,v=.slice a bs.length cap:=by
 rcases f.2 with⟨e,c⟩|⟨g,cap,ad,e,_⟩<;>grind
def P9(bs:List Bc)(s:List UInt8)(r:Int):Prop:=(∃k:Nat,k<bs.length/\r=(k:Int)/\(bs.getD k ip).nm=s/\∀j,j<k->(bs.getD j ip).nm≠s)\/(r=-1/\∀j,j<bs.length->(bs.getD j ip).nm≠s)
theorem rI{W bs}(c3:W.cell? ⟨P,3,none⟩=some u4)(f:W.ownsRow I 162 5 u4 bs.length (bcF bs))(ai:bs.length<=100000)(s):
  Calls prog 113 #[hZ P,eK s] W λe H=>∃r,e=.returned (h1 r)/\P9 bs s r/\H=W:=by
 have bO:V _:=ml f;obtain⟨a,cap,rfl⟩:=jy f;clear f;generalize ag:bs.length=n at ai c3 bO;have HN:V _:=ag;clear ag;go_enter func113,ntmps113;go_wp2_with fail;go_loopw [5] (λS H=>H=W/\∃k:Nat,k<=n/\S=h1 k/\V (∀j,j<k->(bs.getD j ip).nm≠s)) (λS _=>n-(intOf S).toNat)
 case atStart=>exact⟨rfl,0,yae,rfl,λj hj=>by omega⟩
 case round=>
  obtain⟨rfl,k,O,rfl,aG⟩:=hrel;by_cases hlt:k<n
  ·obtain⟨g,b7,e,_,_,_,b3⟩:=bO.o xaa;cases e;have c1:=(b3 k hlt).1;have HK:V (∀x,(bs.getD k ip).nm=x->x=s->_):=λx F h2=>F.trans h2;generalize ap:(bs.getD k _).nm=x at c1;have HX:V _:=ap;clear ap b3;cases aA:(x==s)
   ·have R:V (∀j,j<k+1->(bs.getD j _).nm≠s):=λj hj=>by
     by_cases c:j=k
     ·subst c;rw[HX.o];grind
     ·exact aG.o j xaa
    go_wp2_with fail;exact xck
   have R:V ((bs.getD k ip).nm=s):=by grind
   go_wp2_with fail;go_ret;exact⟨_,rfl,.inl ⟨k,i1 HN.o hlt,rfl,R.o,aG.o⟩,rfl⟩
  obtain rfl:k=n:=xaa;go_wp2_with fail;go_ret;exact⟨_,rfl,.inr ⟨rfl,i1 HN.o aG.o⟩,rfl⟩
theorem GU(s w):Calls prog 125 #[eK s] w λe B=>e=.returned (h1 (qL s))/\B=w:=by
 unfold qL;by_cases ak:s=[43]
 ·rw[h7 ak];have bl:(s==[43])=true:=by grind
  clear ak;exact xep
 rw[h6 ak];have bl:=yax ak;by_cases F:s=[45]
 ·rw[h7 F];have aS:(s==[45])=true:=by grind
  clear ak F;exact xep
 rw[h6 F];have aS:=yax F;by_cases h2:s=[42]
 ·rw[h7 h2];have a9:(s==[42])=true:=by grind
  exact xhz
 rw[h6 h2];have a9:=yax h2;exact xhz
theorem uB(x y q)(ts:List Tok)(k)(h:k<ts.length):jI x y q (ts.take (k+1))=i9 x y (jI x y q (ts.take k)) (ts.getD k ih):=by
 rw[yau h,lS,yai,yam h];rfl
theorem Qa(x y):∀(ts:List Tok) (q:OpS),(jI x y q ts).i=q.i+ts.length
 |[],q=>rfl
 |t::ts,q=>by
  rw[gL,Qa x y _,yaq]
  grind[i9]
theorem Qb(x y):∀(ts:List Tok) (q:OpS),q.d-ts.length<=(jI x y q ts).d/\(jI x y q ts).d<=q.d+ts.length
 |[],q=>by rw[rB];simp
 |t::ts,q=>by
  rw[gL,yaq]
  have F:=Qb x y ts (i9 x y q t)
  grind[i9]
theorem Rb(x y q t):(i9 x y q t).b=i8 t.sym:=by unfold i9;grind
def opQ(x y:List UInt8)(ts:List Tok)(k:Nat):OpS:=jI x y ⟨0,0,-1,false⟩ (ts.take k)
theorem Qc{k}(h:k<=ts.length):(opQ x y ts k).i=k:=by
 unfold opQ;rw[Qa,List.length_take];show 0+_=_;omega
theorem Qd{k}(h:k<ts.length):(opQ x y ts (k+1)).b=i8 (ts.getD k ih).sym:=by
 unfold opQ;rw[uB x y _ _ k h,Rb]
theorem GV{k}(h:k<ts.length):opQ x y ts (k+1)=i9 x y (opQ x y ts k) (ts.getD k ih):=uB x y _ ts k h
theorem Oi{k:Nat}:-((k:Int))<=(opQ x y ts k).d/\(opQ x y ts k).d<=k:=by
 have h:=Qb x y (ts.take k) ⟨0,0,-1,false⟩;have h2:(ts.take k).length<=k:=by rw[List.length_take];omega
 unfold opQ;simp only at h;omega
theorem fC(W g off m cap ts)(f:TkA W g off m ts)(ao:m<=5000)(x y):
  Calls prog 123 #[.slice (some ⟨g,off,none⟩) m cap,eK x,eK y] W λe H=>e=.returned (h1 (opM x y ts))/\H=W:=by
 have aD:V _:=f;have HL:V _:=f.len;have HE:V (opM x y ts=(opQ x y ts m).at_):=by show _=_;unfold opM opQ;rw[<-f.len,List.take_length]
 clear f;rw[HE.o];go_enter func123,ntmps123;go_wp2_with fail;go_loopw [7,8,9] (λu aF S H=>H=W/\∃k:Nat,k<=m/\S=h1 k/\u=h1 (opQ x y ts k).d/\aF=h1 (opQ x y ts k).at_) (λ_ _ S _=>m-(intOf S).toNat)
 case atStart=>exact⟨rfl,0,yae,rfl,rfl,rfl⟩
 case round=>
  obtain⟨rfl,k,O,rfl,rfl,rfl⟩:=hrel;by_cases hlt:k<m
  ·have ab:k<ts.length:=by rw[HL.o];exact hlt
   have c0:=aD.o.c0 k hlt;have au:V _:=GV (x:=x) (y:=y) ab;have bM:=Oi (x:=x) (y:=y) (ts:=ts) (k:=k);have hi:=Qc (x:=x) (y:=y) (ts:=ts) (k:=k) xaa;have G:V (k=0->(opQ x y ts k).b=false):=λh=>by subst h;rfl
   have Z:V (∀q,k=q+1->(opQ x y _ k).b=i8 (ts.getD q _).sym):=λq h=>by subst h;exact Qd xaa
   have b2:V (∀q,k=q+1->_):=λq h=>aD.o.c0 q xaa;generalize opQ x y _ k=Q at au bM hi G Z⊢;generalize ts.getD k _=C at c0 au;obtain⟨l,d,a,b⟩:=Q;simp only at bM hi au G Z⊢;subst hi;by_cases F:C.sym=[40]
   ·have R:V (opQ x y _ _=⟨l+1,d+1,a,_⟩):=au.o.trans (xB F);have aS:(C.sym==[40])=true:=by rw[F];rfl
    have aR:IntKind.i64.wrap (d+1)=d+1:=by rw[IntKind.wrap_i64];omega
    generalize C.sym=s at c0 aS;clear F au G Z b2 ab;exact xdr
   by_cases h2:C.sym=[41]
   ·have R:V (opQ x y _ _=⟨l+1,d-1,a,_⟩):=au.o.trans (xC h2);have aS:=yax F;have a9:(C.sym==[41])=true:=by rw[h2];rfl
    have aR:IntKind.i64.wrap (d-1)=d-1:=by rw[IntKind.wrap_i64];omega
    generalize C.sym=s at c0 aS a9;clear F h2 au G Z b2 ab;exact xdr
   have aS:=yax F;have a9:=yax h2;have HO:V (¬(d=0/\b=true/\(C.sym=x\/C.sym=y))->opQ x y _ _=⟨l+1,d,a,_⟩):=λh=>au.o.trans (oC F h2 h);have aW:V ((d=0/\b=true/\(C.sym=x\/C.sym=y))->opQ x y _ _=⟨l+1,d,l,_⟩):=λh=>au.o.trans (Bg F h2 h);clear au F h2;generalize i8 _=ck at HO aW;generalize C.sym=s at c0 aS a9 HO aW;by_cases aO:d=0
   ·subst aO;cases l with
    |zero=>
     have R:V _:=HO.o (λc=>by have:=G.o rfl;rw[this]at c;exact absurd c.2.1 xac);clear G Z b2 ab HO aW;rw[Nat.zero_mul,Nat.add_zero]at c0;go_wp2_with fail;go_roundw;exact⟨trivial,0+1,by omega,by go_num,by rw[R.o],by rw[R.o]⟩;simp[intOf];omega
    |succ q=>
     have hb:=Z.o q rfl;have c1:=b2.o q rfl;generalize (ts.getD q _).sym=ps at hb c1;have n:V _:=hb;clear hb G Z b2 ab;have aR:IntKind.i64.wrap ((q+1:Nat)-1)=q:=by rw[IntKind.wrap_i64];omega
     have bd:(0:Int)<(q:Nat)+1:=xaa;cases a8:(s==x)
     ·have t:s≠x:=λc=>by rw[c]at a8;simp at a8
      cases r:(s==y)
      ·have cU:s≠y:=λc=>by rw[c]at r;simp at r
       have R:V _:=HO.o (λc=>c.2.2.elim t cU);clear t cU HO aW c1;go_wp2_with fail;go_roundw;exact⟨trivial,q+1+1,by omega,by go_num,by rw[R.o],by rw[R.o]⟩;simp[intOf];omega
      have U:s=y:=by simpa using r
      have af:V (i8 _=false->_):=λh=>HO.o (λc=>by rw[n.o,h]at c;exact absurd c.2.1 xac);have j:V _:=λh=>aW.o ⟨rfl,n.o.trans h,.inr U⟩;clear t U HO aW n;cases bH:(ps==[110,97,109,101])
      case true=>
       have R:V _:=j.o (by show i8 ps=_;unfold i8 gH ik kO;rw[bH];rfl);clear af j;go_wp2_with fail;go_roundw;exact⟨trivial,q+1+1,by omega,by go_num,by rw[R.o],by rw[R.o]⟩;simp[intOf];omega
      case false=>
       cases bk:(ps==[105,110,116])
       case true=>
        have R:V _:=j.o (by show i8 ps=_;unfold i8 gH ik kO;rw[bH,bk];rfl);clear af j;go_wp2_with fail;go_roundw;exact⟨trivial,q+1+1,by omega,by go_num,by rw[R.o],by rw[R.o]⟩;simp[intOf];omega
       case false=>
        cases p2:(ps==[100,101,99])
        case true=>
         have R:V _:=j.o (by show i8 ps=_;unfold i8 gH ik kO;rw[bH,bk,p2];rfl);clear af j;go_wp2_with fail;go_roundw;exact⟨trivial,q+1+1,by omega,by go_num,by rw[R.o],by rw[R.o]⟩;simp[intOf];omega
        case false=>
         cases a6:(ps==[41])
         case true=>
          have R:V _:=j.o (by show i8 ps=_;unfold i8 gH ik kO;rw[bH,bk,p2,a6];rfl);clear af j;go_wp2_with fail;go_roundw;exact⟨trivial,q+1+1,by omega,by go_num,by rw[R.o],by rw[R.o]⟩;simp[intOf];omega
         case false=>
          have R:V _:=af.o (by show i8 ps=_;unfold i8 gH ik kO;rw[bH,bk,p2,a6];rfl);clear af j;go_wp2_with fail;go_roundw;exact⟨trivial,q+1+1,by omega,by go_num,by rw[R.o],by rw[R.o]⟩;simp[intOf];omega
     have da:s=x:=by simpa using a8
     have af:V (i8 _=false->_):=λh=>HO.o (λc=>by rw[n.o,h]at c;exact absurd c.2.1 xac);have j:V _:=λh=>aW.o ⟨rfl,n.o.trans h,.inl da⟩;clear da HO aW n;cases bH:(ps==[110,97,109,101])
     case true=>
      have R:V _:=j.o (by show i8 ps=_;unfold i8 gH ik kO;rw[bH];rfl);clear af j;go_wp2_with fail;go_roundw;exact⟨trivial,q+1+1,by omega,by go_num,by rw[R.o],by rw[R.o]⟩;simp[intOf];omega
     case false=>
      cases bk:(ps==[105,110,116])
      case true=>
       have R:V _:=j.o (by show i8 ps=_;unfold i8 gH ik kO;rw[bH,bk];rfl);clear af j;go_wp2_with fail;go_roundw;exact⟨trivial,q+1+1,by omega,by go_num,by rw[R.o],by rw[R.o]⟩;simp[intOf];omega
      case false=>
       cases p2:(ps==[100,101,99])
       case true=>
        have R:V _:=j.o (by show i8 ps=_;unfold i8 gH ik kO;rw[bH,bk,p2];rfl);clear af j;go_wp2_with fail;go_roundw;exact⟨trivial,q+1+1,by omega,by go_num,by rw[R.o],by rw[R.o]⟩;simp[intOf];omega
       case false=>
        cases a6:(ps==[41])
        case true=>
         have R:V _:=j.o (by show i8 ps=_;unfold i8 gH ik kO;rw[bH,bk,p2,a6];rfl);clear af j;go_wp2_with fail;go_roundw;exact⟨trivial,q+1+1,by omega,by go_num,by rw[R.o],by rw[R.o]⟩;simp[intOf];omega
        case false=>
         have R:V _:=af.o (by show i8 ps=_;unfold i8 gH ik kO;rw[bH,bk,p2,a6];rfl);clear af j;go_wp2_with fail;go_roundw;exact⟨trivial,q+1+1,by omega,by go_num,by rw[R.o],by rw[R.o]⟩;simp[intOf];omega
   have R:V _:=HO.o (λc=>aO c.1);have hd0:=yax aO;clear G Z b2 ab HO aW aO;exact xdr
  obtain rfl:k=m:=xaa;go_wp2_with fail;go_ret;exact⟨rfl,rfl⟩
theorem Qe(l k h):(((⟨l.toArray⟩:ByteArray)[k]'h).toNat:Int)=bt l k:=by
 have O:k<l.length:=by rw[<-fO];exact h
 unfold bt;rw[yai,yam O];rfl
theorem wb(l k)(h:k<l.length):ii (l.take (k+1))=ii (l.take k)*10+(bt l k-48):=by
 unfold ii;rw[yau h,List.foldl_append];unfold bt;simp_all
theorem we{l}(h:Dgs l):∀k,k<=l.length->0<=ii (l.take k)/\ii (l.take k)<10 ^ k
 |0,_=>by rw[List.take_zero];exact⟨by decide,by decide⟩
 |k+1,O=>by
  have G:=we h k xaa
  have aO:=h.d k xaa
  rw[wb l k xaa,Int.pow_succ]
  omega
theorem Qf:∀k:Nat,k<=15->(10:Int) ^ k<=1000000000000000:=by
 intro k O;have:∀k:Fin 16,(10:Int) ^ k.1<=1000000000000000:=xab;exact this ⟨k,by omega⟩
theorem pW{l}(h:Dgs l){k}(O:k<=l.length):0<=ii (l.take k)/\ii (l.take k)<1000000000000000:=by
 have F:=we h k O;have h2:=Qf k (ix h.len);omega
theorem zW(t)(h:Dgs t.text)(W):Calls prog 114 #[iT t] W λe H=>e=.returned (h1 (ii t.text))/\Kept 0 0 W H:=by
 obtain⟨aT,ps,l⟩:=t;simp only at h⊢;unfold iT;simp only;have HD:V _:=h;have ai:=h.len;have T:V _:=gV W aT ps l;have HK:V _:=eA 0 0 W (.cells #[eK aT,h1 ps,eK l] 137);have aw:=fO l;clear h;go_enter func114,ntmps114;go_wp2_with fail;change Code.wp _ _ _ _ (W.alloc (.cells _ 137));generalize W.alloc _=ax at T HK⊢;have y2:=T.o.c2;go_loopw [3,4] (λv S H=>H=ax/\∃k:Nat,k<=l.length/\S=h1 k/\v=h1 (ii (l.take k))) (λ_ S _=>l.length-(intOf S).toNat)
 case atStart=>exact⟨rfl,0,yae,rfl,rfl⟩
 case round=>
  obtain⟨rfl,k,O,rfl,rfl⟩:=hrel;by_cases hlt:k<l.length
  ·have bp:=Qe l k;have aO:=HD.o.d k hlt;have hb:=pW HD.o O;have R:V _:=wb l k hlt;generalize bt l k=x at bp aO R;generalize ii _=v at hb R⊢;have aR:IntKind.i64.wrap (v*10)=v*10:=by rw[IntKind.wrap_i64];omega
   have bd:IntKind.u8.wrap (x-48)=x-48:=by grind[IntKind.wrap,IntKind.bits]
   have bu:IntKind.i64.wrap (v*10+(x-48))=v*10+(x-48):=by rw[IntKind.wrap_i64];omega
   have bC:IntKind.i64.wrap (x-48)=x-48:=by rw[IntKind.wrap_i64];omega
   have ct:(k:Int)<l.length:=xaa;go_wp2_with fail;go_roundw;exact⟨trivial,k+1,by omega,by go_num,by rw[R.o]⟩;simp[intOf];omega
  obtain rfl:k=l.length:=xaa;have ct:¬((l.length:Int)<l.length):=xaa;go_wp2_with fail;go_ret;exact⟨rfl,HK.o⟩
theorem bC.qbs(h:Zp:=by
 have K:g9≠P:=λe=>by
  subst e
  rcases bw with c|c
  ·exact p2 c
  ·have:=h.lt;omega
 have ae:(Value.slice _ _ _).ownBlock≠some P:=λc=>K ((aZ P).1 c);have bv:∀o,_:=λo=>bp.cell (p:=⟨P,o,none⟩) h.lt p2;have es:∀o,o≠1->(bn.setCell ⟨P,1,_⟩ (h0 g9 n9 cap9)).cell? _=W.cell? _:=λo ho=>(eV _ _ _ _ _ _ (.inr (λe=>ho e.symm))).trans (bv o);have a9:=(eU (lo:=P) (hi:=P+1) bn ⟨P,1,none⟩ (h0 g9 n9 cap9) yac)
 have au:Mv (Mst P u1 u2 u3 u4) W (Mst P u1 (h0 g9 n9 cap9) u3 u4) (bn.setCell ⟨P,1,none⟩ (h0 g9 n9 cap9)):=by
  refine⟨Chg.andThen ⟨bp.os,bp.tape,bp.output,bp.size,λi hi ag=>bp.block i hi (λc=>ag (.inr (.inr (.inl c))))⟩ (a9.chg1 (.inl rfl)),λb hb=>?_⟩;rcases hb with c|c|c|c|c
  ·exact .inl (.inl c)
  ·exact .inl (.inr (.inl c))
  ·rw[aZ]at c;subst c;rcases bw with d|d
   ·exact .inl (.inr (.inr (.inl d)))
   omega
  ·exact .inl (.inr (.inr (.inr (.inl c))))
  exact .inl (.inr (.inr (.inr (.inr c))))
 exact qeh):Zp:=h
theorem bC.qei(h:Zp:=by
 refine⟨⟨by simpa using yak h.lt bp.size,λo=>?_,(es 0 xab).trans h.c0,fy _ _ _ _ _ ((bv 1).trans h.c1),(es 2 xab).trans h.c2,(es 3 xab).trans h.c3,(es 4 xab).trans h.c4,(es 5 xab).trans h.c5,(es 6 xab).trans h.c6,?_,?_,?_,?_,⟨bk,ae,a6,l⟩,⟨aP h.r1 B,m,r,(aP h.r3 G.symm).symm,(aP h.r4 C.symm).symm,F⟩,h.nl,λi hi=>(h.nb i hi).mv au,h.sz⟩,au⟩
 ·have:=(bp.frozen h.lt p2).trans (h.fr o);simp[this]
 ·exact eI (fe h.r1 bp (λb hb c=>B b hb c)) bk
 ·subst ag;exact eI bq ae
 ·exact eI (fe h.r3 bp (λb hb c=>G b c hb)) a6
 exact eI (fe h.r4 bp (λb hb c=>C b c hb)) l):Zp:=h
open bC in
theorem WS.vals{W bn bs}(h:WS W P I u1 u2 u3 u4 bs st)(bp:Chg (λb=>u2.ownBlock=some b) W bn){g9 n9 cap9}(ag:n9=vs.length)(bq:bn.ownsRow I 86 6 (h0 g9 n9 cap9) n9 (fN vs))(bw:u2.ownBlock=some g9\/W.heap.size<=g9):
  WS (bn.setCell ⟨P,1,none⟩ (h0 g9 n9 cap9)) P I u1 (h0 g9 n9 cap9) u3 u4 bs {st with vs:=vs}/\Mv (Mst P u1 u2 u3 u4) W (Mst P u1 (h0 g9 n9 cap9) u3 u4) (bn.setCell ⟨P,1,none⟩ (h0 g9 n9 cap9)):=by
 exact qbr
theorem je{W:World}{e s n:Nat}{xs}(f:W.ownsRow I e s v n xs):∃a cap,v=.slice a n cap:=by
 rcases f.2 with⟨e,c⟩|⟨g,cap,ad,e,_⟩<;>grind
theorem yi{W n xs}(f:W.ownsRow I 3 1 (.slice a n cap) n (xs.map (Value.int .i64)))(ai:xs.length=n):IS W 0 W.heap.size a n xs:=by
 refine⟨ai,?_⟩;rcases f.2 with⟨_,c⟩|⟨g,c,ad,e,U,aV,aa,_,ct,bX⟩
 ·exact .inl c
 cases e;have aK:g<W.heap.size:=by grind
 refine .inr ⟨g,0,rfl,yae,aK,aK,λk O=>?_⟩;rw[Nat.zero_add,cell_of_row W g _ _ _ _ aV,<-Array.getElem?_toList];exact xid
theorem GW{W n}(f:W.ownsRow I 86 6 (.slice a n cap) n (fN vs))(ai:vs.length=n)(O:∀v∈vs,v.k<18446744073709551616):VS W 0 W.heap.size a n vs:=by
 by_cases ak:n=0
 ·exact⟨ai,O,.inl ak⟩
 obtain⟨g,c,e,U,aV,_,b1⟩:=nj f xaa ai;cases e;exact b1.vs O
theorem WS.gs{W bs}(h:WS W P I u1 u2 u3 u4 bs st)(O:∀v∈st.vs,v.k<18446744073709551616):∃a1 c1 J c2 a3 c3,u1=.slice a1 st.ins.length c1/\u2=.slice J st.vs.length c2/\u3=.slice a3 st.outs.length c3/\GS W a1 st.ins.length J st.vs.length a3 st.outs.length st.ins st.vs st.outs:=by
 obtain⟨a1,c1,af⟩:=je h.r1;obtain⟨J,c2,bg⟩:=je h.r2;obtain⟨a3,c3,ah⟩:=je h.r3;refine⟨_,_,_,_,_,_,af,bg,ah,⟨yi (by have:=h.r1;rw[af]at this;exact this) rfl,GW (by have:=h.r2;rw[bg]at this;exact this) rfl O,yi (by have:=h.r3;rw[ah]at this;exact this) rfl⟩⟩
structure Gd(st:LSt):Prop where
 n:st.vs.length<=2000
 c:eZ st.vs<=50000
 ok:(List.range st.vs.length).all (okV st.ins st.vs)=true
 k:∀v∈st.vs,v.k<18446744073709551616
 i:st.ins.length<=20
 o:st.outs.length<=50
 m:st.names.length<=5000
theorem Gd.len(h:Gd st):∀k,k<st.vs.length->1<=(st.vs.getD k h9).len/\(st.vs.getD k h9).len<=1000:=λk O=>by
 have F:=List.all_eq_true.1 h.ok k (List.mem_range.2 O)
 exact of_decide_eq_true (uf F)
theorem zX{v}(h:∀k,k<vs.length->1<=(vs.getD k h9).len/\(vs.getD k h9).len<=1000)(aN:1<=v.len/\v.len<=1000):∀k,k<(vs++[v]).length->1<=((vs++[v]).getD k h9).len/\((vs++[v]).getD k h9).len<=1000:=λk O=>by
 grind
theorem uC{v}(h:∀u∈vs,u.k<18446744073709551616)(aN:v.k<18446744073709551616):∀u∈vs++[v],u.k<18446744073709551616:=λu a6=>by
 grind
theorem L.qaq(h:Zp:=by
 go_region_law
  ((refine step_append_lies _ rfl (.tmp 12) (.tmp 14) 106 rfl I 86 b1 (lK 0 0 0 0 0 0) 6 48 underlying106 hi hz0 hz1 hz2 rfl xab _ _ (fN st.vs) (by simp[Act.eval]) (lU bq.o 1 _) ⟨aH.heap.size,0,none⟩ 1 1 v.cells (by simp[Act.eval]) rfl (Cu _ _ _) (F0 v) xab (by unfold maxLen;omega) xaa yag _ rfl ?_;intro g9 cap9 bn bU bK bO bV;have aY:=kR bK aM HR.o.1 c1;have bN:=far2 bK aM HR.o.1 cx;have ar:=kR bK d HR.o.2 aw;have aW:=kR bK d HR.o.2 ba;have bJ:=kR bK d HR.o.2 bb;have cB:=kR bK d HR.o.2 bc;have cy:=kR bK d HR.o.2 bo;have cI:=kR bK d HR.o.2 aF))
 all_goals
  have be:=bO.imp id (λe=>Nat.le_of_eq e.symm)
  have ab:=(eA 0 0 aH (.cells #[h1 v.op,h1 v.len,h1 v.a,h1 v.b,h1 v.c,.float .f64 v.k] 86)).trans (eH 0 0 _ 1)
  have l:bn.ownsRow I 86 6 (h0 g9 (N+1) cap9) (N+1) (fN (st.vs++[v])):=by rw[mC,qE];exact bU
  obtain⟨(u:V _),Q⟩:=(bL.o.keep ab).vals (fT bK) (by rw[yal,HN.o];rfl) l be
  have aQ:V _:=(HM1.o.keep ab).trans Q
  clear Q be ab bU l bK bO bV aY bN ar aW bJ cB cy cI aw ba bb bc bo aF cx c1 bq bL HM1
  generalize bn.setCell ⟨P,1,_⟩ _=a5 at u aQ⊢
  obtain⟨a1,bB,a2',bG,a3,b3,af,bg,ah,f⟩:=u.o.gs bQ.o
  simp only at af ah f
  subst af ah
  have aD:V _:=BD _ _ _ _ _ bB _ bG _ b3 _ _ _ f b.o
  have t:(st.vs++[v]).length=N+1:=by grind
  have n:V _:=λH=>iY H a1 a2' a3 st.ins.length bB (N+1) bG st.outs.length b3 xaa
  rw[t]at aD bg
  clear f
  have bh:=u.o.c0
  have aJ:=u.o.c1
  have y2:=u.o.c2
  cases bg
  cases hb:kz (st.vs++[v])
  ·rw[hb]at aD bZ
   have S:V _:=bZ.o.trans (h6 xac)
   have m:V (∀H,Kept 0 0 _ H->H.cell? _=some _/\H.cell? _=some _/\H.cell? _=some _):=λH k=>⟨(u.o.keep k).c0,(u.o.keep k).c1,(u.o.keep k).c2⟩
   clear hb bZ
   go_wp2_with (first
    |(go_at_call 130;refine yaj aD.o ?_;rintro e bf ⟨rfl,au⟩;obtain⟨aP,ay,aB⟩:=m.o _ au)
    |(go_at_call 85;refine yaj (n.o _) ?_;rintro e aO ⟨rfl,ad⟩))
   go_ret
   rw[S.o]
   exact⟨by simp,_,_,_,_,(u.o.keep au).keep ad,(aQ.o.keep au).keep ad⟩
  ·rw[hb]at aD bZ
   have S:V _:=bZ.o.trans (h7 rfl)
   have bT:V (∀H,Kept 0 0 _ H->_):=λH k=>jw (u.o.keep k).c5 (u.o.keep k).c6 (u.o.keep k).fr 5 p (Mst P (.slice a1 st.ins.length bB) (h0 g9 (N+1) cap9) (.slice a3 st.outs.length b3) u4) (.inl rfl)
   clear hb bZ
   go_wp2_with (first
    |(go_at_call 130;refine yaj aD.o ?_;rintro e bf ⟨rfl,au⟩)
    |(go_at_call 111;refine yaj (bT.o _ au) ?_;rintro e aO ⟨rfl,G⟩))
   go_ret
   rw[S.o]
   exact⟨rfl,G.c5,G.c6,(aQ.o.keep au).bad G.chg⟩):Zp:=h
open L in
theorem mn{W bs}(h:WS W P I u1 u2 u3 u4 bs st)(g:Gd st)(v)(aN:1<=v.len/\v.len<=1000)(X:v.k<18446744073709551616)(p:Nat):
  Calls prog 115 #[hZ P,v.agg,h1 p] W (TrO W P I u1 u2 u3 u4 bs (fI st v p)):=by
 exact qap
end
section
open Go.RowKit Flt
variable{n:Int}{st:LSt}{p i:Nat}{r:List Nat}
theorem GX{vs}(h:kz vs=false):vs.length<=2000/\eZ vs<=50000:=by
 grind[kz]
theorem Gd.put(g:Gd st){v}(aN:okV st.ins (st.vs++[v]) st.vs.length=true)(O:v.k<18446744073709551616)(ai:kz (st.vs++[v])=false):Gd {st with vs:=st.vs++[v]}:=by
 obtain⟨F,h2⟩:=GX ai;refine⟨F,h2,?_,uC g.k O,g.i,g.o,g.m⟩;rw[List.all_eq_true];intro i hi;have hi':=List.mem_range.1 hi;simp only[yal,List.length_singleton]at hi';by_cases c:i<st.vs.length
 ·exact sU c (List.all_eq_true.1 g.ok i (List.mem_range.2 c))
 grind
theorem Gd.lenB(g:Gd st)(h:i<st.vs.length):1<=eW st i/\eW st i<=1000:=g.len i h
theorem yj(ins vs v)(ak:v.op≠0)(ai:1<=v.len/\v.len<=1000)(aw:fF v=true)(ho:∀o∈fo v,0<=o/\o<(vs.length:Int))(d:eQ v.op v.len v.c ((fo v).map λo=>(vs.getD o.toNat h9).len)=true):okV ins (vs++[v]) vs.length=true:=by
 have aN:(vs++[v]).getD vs.length h9=v:=by simp_all
 have ao:((fo v).map λo=>((vs++[v]).getD o.toNat h9).len)=((fo v).map λo=>(vs.getD o.toNat h9).len):=by
  apply List.map_congr_left;intro o a;have:=ho o a;grind
 grind[okV,lenB,gm]
theorem wg(st)(xs:List Nat)(k)(h:k<xs.length):pU st (xs.take (k+1))=if pU st (xs.take k)<eW st (xs.getD k 0)then eW st (xs.getD k 0)else pU st (xs.take k):=by
 unfold pU;rw[yau h,List.foldl_append,yai,yam h];rfl
theorem yk{st}(g:Gd st)(xs:List Nat)(ap:∀i∈xs,i<st.vs.length):∀k,k<=xs.length->1<=pU st (xs.take k)/\pU st (xs.take k)<=1000
 |0,_=>by simp_all[pU]
 |k+1,O=>by
  have G:=yk g _ ap k xaa
  have ao:xs.getD k 0∈xs:=by grind
  have:=g.lenB (ap _ ao)
  rw[wg _ _ k xaa]
  omega
def uD(js:List Nat)(r:Rs (LSt×List Nat)):Rs (LSt×List Nat):=
 match r with
 |.error f=>.error f
 |.ok (s,ks)=>.ok (s,js++ks)
theorem GY(r):uD [] r=r:=by
 cases r with
 |error f=>rfl
 |ok x=>rfl
theorem oM(h:¬eW st i<n):iu n p st (i::r)=uD [i] (iu n p st r):=by
 rw[iu,h6 h];cases iu n p st r with
 |error f=>rfl
 |ok x=>rfl
theorem pO{u j}(h:eW st i<n)(aQ:fI st (eJ 10 n (i:Int) 0 0) p=.ok (u,j)):iu n p st (i::r)=uD [j] (iu n p u r):=by
 rw[iu,h7 h,aQ];simp only;cases iu n p u r with
 |error f=>rfl
 |ok x=>rfl
theorem pP{f}(h:eW st i<n)(aQ:fI st (eJ 10 n (i:Int) 0 0) p=.error f):iu n p st (i::r)=.error f:=by
 rw[iu,h7 h,aQ]
theorem wi(a b r):uD a (uD b r)=uD (a++b) r:=by
 cases r<;>grind[uD]
theorem Kz(hi:i<st.vs.length)(F:eW st i=1)(ag:1<=n/\n<=1000):okV st.ins (st.vs++[eJ 10 n (i:Int) 0 0]) st.vs.length=true:=by
 refine yj _ _ _ (show 10≠0 by decide) ag (by rfl) ?_ ?_
 ·grind[fo]
 simp_all[fo,eW,cnt,eQ]
end
section
open Go.RowKit Flt Ieee
variable{x:List UInt8}
theorem KA(s a b):∃r,double.nearest s a b=W s r/\r<=9218868437227405312:=by
 unfold Ieee.Format.nearest;by_cases h:a=0
 ·rw[h7 h,sO];grind
 rw[h6 h];simp only[sO,wZ];exact⟨_,rfl,Nat.min_le_right _ _⟩
theorem zY(neg n a):Ieee.Toward.cut .even neg n a<=n+1:=by
 unfold Ieee.Toward.cut;simp only;exact Nat.add_le_add (Nat.div_le_self _ _) (Bool.toNat_le _)
theorem uE(a)(h:a<=10000000000000000):∃r,double.nearest false a 0=W false r/\r<9218868437227405312/\(0<a->0<r):=by
 unfold Ieee.Format.nearest;by_cases ak:a=0
 ·rw[h7 ak,sO];grind
 rw[h6 ak];simp only[sO,wZ,rn,tK,JE]
 have bV:a.log2<=53:=by
  have:=(Nat.log2_lt ak).2 (show a<2 ^ 54 by omega);omega
 have ao:a<2 ^ (a.log2+1):=Nat.lt_log2_self;generalize a.log2=L at*;have ai:max ((0:Int)+L-(52:Nat)) (-1074)=L-52:=xaa;rw[ai]
 have ag:a<<<(0-((L:Int)-52)).toNat<=10000000000000000:=by
  rw[Nat.shiftLeft_eq];by_cases c:L<=52
  ·have e:(0-((L:Int)-52)).toNat=52-L:=xaa;rw[e];have F:a*2 ^ (52-L)<=2 ^ (L+1)*2 ^ (52-L):=Nat.mul_le_mul_right _ (Nat.le_of_lt ao);rw[<-Nat.pow_add,show L+1+(52-L)=53 by omega]at F;omega
  grind
 have O:=zY false (a<<<(0-((L:Int)-52)).toNat) ((L:Int)-52-0).toNat;generalize Ieee.Toward.cut _ _ _ _=K at*;have hi:((L:Int)-52- -1074).toNat=L+1022:=xaa;rw[hi];refine⟨_,rfl,?_,λ_=>?_⟩<;>omega
theorem GZ{s r}(h:r<=9218868437227405312):(double.read (W s r)).isNaN=false:=by
 rcases Nat.lt_or_eq_of_le h with h|rfl
 ·rw[lX h];rfl
 rw[ot];rfl
theorem KC{n d}(ak:0<=n)(F:n<=10000000000000000)(h2:1<=d)(h3:d<=10000000000000000):(f64.read (cop .quo (floatOfInt .f64 n) (floatOfInt .f64 d))).isNaN=false:=by
 obtain⟨r,af,aF,_⟩:=uE n.natAbs xaa;obtain⟨q,bg,aA,aP⟩:=uE d.natAbs xaa
 have f1:floatOfInt .f64 n=W false r:=by
  rw[<-af];show double.nearest (decide (n<0)) n.natAbs 0=_;grind
 have f2:floatOfInt .f64 d=W false q:=by
  rw[<-bg];show double.nearest (decide (d<0)) d.natAbs 0=_;grind
 rw[f1,f2];have bJ:=PM (aP xaa);have e:floatBits .quo .f64 _ _=((double.read (W false r)).quotient (double.fractionBits+2) (double.read (W false q))).map double.write:=rfl;unfold cop;rw[e,lX aF,lX aA];simp only[Ieee.Datum.quotient,h6 (show ¬M q=0 by omega),Option.map_some,Option.getD_some,Ieee.Format.write];obtain⟨z,ah,a5⟩:=KA (false ^^ false) (2*((M r<<<(double.fractionBits+2+(M q).log2-(M r).log2))/M q)+((M r<<<(double.fractionBits+2+(M q).log2-(M r).log2))%M q !=0).toNat) (-1074+(E r:Nat)-(-1074+(E q:Nat))-(double.fractionBits+2+(M q).log2-(M r).log2:Nat)-1);rw[ah];exact GZ a5
theorem KD(h:kD x):(f64.read (oL x)).isNaN=false:=by
 obtain⟨⟨p,aQ⟩,aO⟩:=h;obtain⟨F,h2,h3,h4⟩:=vK _ aQ.digit _ yad (aQ.short aO);rw[yap yad]at F h2 h3 h4;exact KC F h2 h3 h4
theorem rJ(h:kD x){f c}(k:RN (gU x) f c):f=oL x/\c=0:=by
 rcases k with⟨F,_⟩|⟨_,h2,_⟩|⟨_,_,_,h4,bK⟩
 ·exact absurd h.1 F
 ·have:=h.2;omega
 refine⟨?_,bK⟩;rcases mO h4 with e|⟨_,e⟩<;>grind[KD,oL]
end
section
open Go.RowKit Flt
theorem mS(w e s):Kept 0 0 w (Lib.bytesWorld w e s):=
 ⟨rfl,rfl,rfl,i3 Lib.bytesWorld_size,λk O _=>Lib.bytesWorld_at_old w e s k O⟩
theorem qO(w e t):YS (Lib.bytesWorld w e ⟨t.toArray⟩) (some ⟨w.heap.size,0,none⟩) t.length (gU t) where
 len:=by unfold gU;rw[List.length_map]
 lt:=λx ap=>by
  unfold gU at ap
  obtain⟨b,_,rfl⟩:=List.mem_map.1 ap
  have:=b.toNat_lt
  omega
 at_:=.inr ⟨w.heap.size,0,rfl,i3 Lib.bytesWorld_size,λk O=>by
  rw[Nat.zero_add,Lib.bytesWorld_cell w e ⟨t.toArray⟩ k O,rF t k O]
  rfl⟩
theorem tA{x}(h:kD x):x.length<=16:=by
 obtain⟨⟨p,aQ⟩,aO⟩:=h;have:=aQ.short aO;unfold gU at this;rwa [List.length_map]at this
theorem CF(x):oL x<18446744073709551616:=kT _ _ _
end
section
open Go.RowKit Flt
attribute[local go_sem] eE eD eC
variable{P I n:Nat}{u1 u2 u3 u4:Value}{a:Option Addr}{bs:List Bc}{st:LSt}{s:List UInt8}
structure LcR(M:Nat->Prop)(W:World)(a:Option Addr)(n:Nat)(loc:Loc):Prop where
 len:loc.length=n
 at_:0<n->∃g off,a=some ⟨g,off,none⟩/\¬M g/\g<W.heap.size/\∀k,k<n->W.cell? ⟨g,off+k*2,none⟩=some (eK (loc.getD k ([],0)).1)/\W.cell? ⟨g,off+k*2+1,none⟩=some (.int .i64 ((loc.getD k ([],0)).2:Int))
theorem LcR.mv{M M' W H u}(h:LcR M W a n u)(k:Mv M W M' H):LcR M' H a n u:=
 ⟨h.len,λag=>by
  obtain⟨g,off,e,F,h2,h3⟩:=h.at_ ag
  exact⟨g,_,e,λc=>(k.new g c).elim F (λc=>by omega),yak h2 k.chg.size,λj hj=>⟨(k.chg.cell h2 F).trans (h3 j hj).1,(k.chg.cell h2 F).trans (h3 j hj).2⟩⟩⟩
theorem LcR.keep{M W H u}(h:LcR M W a n u)(k:Kept 0 0 W H):LcR M H a n u:=h.mv (Mv.of k)
def VlO(W:World)(P:Nat)(M:Nat->Prop)(r:Rs Nat)(e:Ending)(W':World):Prop:=
 match r with
 |.error (c,p)=>e=.returned (.int .i64 (-1))/\Bad W P M c p W'
 |.ok v=>e=.returned (.int .i64 (v:Int))/\Kept 0 0 W W'
theorem pX{J:Type}(p z):∀(l:List J) (k:Nat),k<l.length->p (l.getD k z)=true->(∀j,j<k->p (l.getD j z)=false)->l.find? p=some (l.getD k z)
 |x::r,0,_,h,_=>by simp_all
 |x::r,k+1,O,h,hj=>by
  have ak:=hj 0 xaa
  rw[List.find?_cons_of_neg (by grind)]
  exact pX p z r k (by grind) h (λj b=>hj (j+1) xaa)
theorem rK{J:Type}(p z):∀(l:List J),(∀j,j<l.length->p (l.getD j z)=false)->l.find? p=none
 |[],_=>rfl
 |x::r,h=>by
  have ak:=h 0 xac
  rw[List.find?_cons_of_neg (by grind)]
  exact rK p z r (λj hj=>h (j+1) (by grind))
theorem wj{M W b d}(h:BcOK M W b d):b.nm=d.nm:=by cases d<;>exact h.1
theorem oN{W}(h:WS W P I u1 u2 u3 u4 bs st){k}(O:k<bs.length)(F:(bs.getD k ip).nm=s)(h2:∀j,j<k->(bs.getD j ip).nm≠s):iN st.names s=some (st.names.getD k (.val [] 0)):=
 pX (λb:Bdg=>b.nm==s) (.val [] 0) st.names k (i2 h.nl O) (by rw[<-wj (h.nb k O),F];simp) (λj hj=>by rw[<-wj (h.nb j xaa)];grind)
theorem pw{W}(h:WS W P I u1 u2 u3 u4 bs st)(h2:∀j,j<bs.length->(bs.getD j ip).nm≠s):iN st.names s=none:=
 rK (λb:Bdg=>b.nm==s) (.val [] 0) st.names (λj hj=>by rw[<-wj (h.nb j (i1 h.nl hj))];exact yax (h2 j (i1 h.nl hj)))
theorem yl{W}(h:WS W P I u1 u2 u3 u4 bs st)(ao:st.names.length<=5000)(a5 Q cL u)(bV:LcR (Mst P u1 u2 u3 u4) W a5 Q u)(ag:Q<=5000)(t):
  Calls prog 126 #[hZ P,.slice a5 Q cL,iT t] W (VlO W P (Mst P u1 u2 u3 u4) (fi st u t)):=by
 obtain⟨aT,ps,a8⟩:=t;have T:V _:=gV W aT ps a8;have an:=eA 0 0 W (.cells #[eK aT,h1 ps,eK a8] 137);have bZ:V _:=an;have bL:V _:=h.keep an;have aQ:V _:=bV.keep an;have l:V _:=bV.len;have ah:bs.length<=100000:=i3 h.nl
 have bX:V (fi st _ ⟨aT,_,_⟩=match BE u a8 with|some v=>.ok v|none=>match iN _ a8 with|some (.val _ v)=>.ok v|_=>.error (3,ps)):=rfl;generalize fi st _ _=r at bX⊢;unfold iT;simp only;clear an h bV;go_enter func126,ntmps126;go_wp2_with fail;change Code.wp _ _ _ _ (W.alloc (.cells _ 137));generalize W.alloc _=ax at T bZ bL aQ⊢;go_loopw [7] (λS H=>∃k:Nat,k<=Q/\S=h1 k/\V (Kept 0 0 ax H)/\V (∀j,j<k->(u.getD j ([],0)).1≠a8)) (λS _=>Q-(intOf S).toNat)
 case atStart=>exact⟨0,yae,rfl,iv,λj hj=>by omega⟩
 case round=>
  obtain⟨k,O,rfl,aG,m⟩:=hrel;by_cases hlt:k<Q
  ·obtain⟨g,off,rfl,_,aK,al⟩:=(aQ.o.keep aG.o).at_ xaa;obtain⟨c1,_⟩:=al k hlt;have c2:=(T.o.keep aG.o).c2
   have bf:V (∀H,Kept 0 0 _ H->H.cell? _=some _):=λH aj=>by
    obtain⟨aC,cx,e,_,_,aY⟩:=(aQ.o.keep aj).at_ xaa
    cases e
    exact(aY k hlt).2
   generalize ap:(u.getD k _).1=x at c1;have bA:V _:=ap;clear ap al;go_upto_region 4 with fail;go_quiet (fail)
   have a0:V _:=Kept.trans aG.o (eH 0 0 _ nq);clear c1 c2 aG aK;generalize wr.drewN _=cc at a0⊢;cases aA:(x==a8)
   ·have R:V (∀j,j<k+1->(u.getD j _).1≠a8):=λj hj=>by
     by_cases c:j=k
     ·subst c;rw[bA.o];intro d;rw[d]at aA;simp at aA
     ·exact m.o j xaa
    go_wp2_with fail;go_roundw;exact⟨k+1,by omega,by go_num,a0,R⟩;simp[intOf];omega
   have R:V (r=.ok (u.getD k ([],0)).2):=by
    show _=_
    have ai:BE u a8=some (u.getD k ([],0)).2:=by
     unfold BE;rw[pX (λb:List _×Nat=>b.1==a8) _ _ k (i1 l.o hlt) (by show((u.getD k ([],0)).1==a8)=true;rw[bA.o];exact aA) (λj hj=>yax (m.o j hj))];rfl
    rw[bX.o,ai]
   have c3:=bf.o _ a0.o;clear bf;go_wp2_with fail;go_ret;rw[R.o];exact⟨rfl,bZ.o.trans a0.o⟩
  obtain rfl:k=Q:=xaa
  have f:V (BE u a8=none):=by
   show _=_;unfold BE;rw[rK (λb:List _×Nat=>b.1==a8) _ _ (λj hj=>yax (m.o j (by rw[l.o]at hj;exact hj)))];rfl
  have bE:V _:=bL.o.keep aG.o;have cw:V _:=T.o.keep aG.o;have U:V _:=bZ.o.trans aG.o;have c2:=cw.o.c2;have c1:=cw.o.c1;have cg:V _:=rI bE.o.c3 bE.o.r4 ah a8;have c3:=bE.o.c3;have bT:V _:=jw bE.o.c5 bE.o.c6 bE.o.fr 3 ps (Mst P u1 u2 u3 u4) (.inl rfl);have z:V _:=ml bE.o.r4;obtain⟨a4,cK,ak⟩:=jy bE.o.r4;clear aG m aQ T;subst ak;go_upto_region 7 with (go_at_call 113;refine yaj cg.o ?_;rintro e am ⟨i,rfl,b0,X⟩;obtain rfl:=X.symm);rcases b0 with⟨av,bM,rfl,bk,bv⟩|⟨rfl,ag⟩
  ·have br:V _:=oN bE.o bM bk bv;have w:V _:=bE.o.nb _ bM;obtain⟨bN,b7,e4,_,_,_,b3⟩:=z.o xaa;cases e4;obtain⟨_,aM,bi,_,_⟩:=b3 _ bM;generalize bH:bs.length=nn at*;generalize bs.getD av _=b at aM bi w;generalize st.names.getD av _=au at br w;have a9:¬((av:Int)<0):=xaa;cases au with
   |val aS v=>
    have B:=w.o.2.1;have cr:=w.o.2.2;rw[B]at aM;rw[cr]at bi;have R:V (r=.ok v):=by show _=_;rw[bX.o,f.o,br.o]
    clear B cr bk bv b3 bH w z;go_wp2_with fail;go_ret;rw[R.o];exact⟨rfl,U.o⟩
   |fn aS aR y=>
    have B:=w.o.2.1;rw[B]at aM;have R:V (r=.error (3,ps)):=by show _=_;rw[bX.o,f.o,br.o]
    clear B bk bv b3 bH w z bi;go_wp2_with (go_at_call 111;refine yaj bT.o ?_;rintro e aU ⟨rfl,G⟩);go_ret;rw[R.o];exact⟨rfl,G.c5,G.c6,(Mv.of U.o).bad G.chg⟩
  have R:V (r=.error (3,ps)):=by show _=_;rw[bX.o,f.o,pw bE.o ag]
  clear ag z;go_wp2_with (go_at_call 111;refine yaj bT.o ?_;rintro e aU ⟨rfl,G⟩);go_ret;rw[R.o];exact⟨rfl,G.c5,G.c6,(Mv.of U.o).bad G.chg⟩
