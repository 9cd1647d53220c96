import Derived.Test.YtcjhlkdleojbjaaGreatP11
import Derived.Test.YtcjhlkdleojbjaaGreatP21
namespace Go.Proofs.Z
variable{Zp:Prop}
open Tryz
set_option maxRecDepth 1000000
set_option maxHeartbeats 0
section
open Go.RowKit Flt
variable{ts:List Tok}
def kIn:List UInt8:=[105,110]
def KC:List UInt8:=[108,101,116]
def KD:List UInt8:=[111,117,116]
def Hb:List UInt8:=[100,101,102]
def KE:List UInt8:=[114,101,112,101,97,116]
theorem KF{n es}(h:Pr n es ts):∀t∈ts,t.sym≠[59]:=by
 induction h<;>(try simp only[List.forall_mem_append,List.forall_mem_cons])<;>grind[iK,lk,gK,yX,Gi,AY,JZ,yY,vh,ql,Dz,B9,J0]
inductive Sm where
 |inS (n l:Tok)
 |letS (n:Tok) (e:Ex)
 |rep (i n:Tok) (e:Ex)
 |defS (n:Tok) (ps:List Tok) (e:Ex)
 |outS (k:Tok) (e:Ex)
inductive PPm:List Tok->List Tok->Prop
 |one {t:Tok}:t.sym=gK->PPm [t] [t]
 |more {ps ts:List Tok}{c t:Tok}:PPm ps ts->c.sym=[44]->t.sym=gK->PPm (ps++[t]) (ts++[c,t])
theorem Hc{ps}(h:PPm ps ts):∀t∈ts,t.sym=gK\/t.sym=[44]:=by
 induction h<;>grind
inductive PSm:Sm->List Tok->Prop
 |inS {k n c l:Tok}:k.sym=kIn->n.sym=gK->c.sym=[58]->l.sym=iK->PSm (.inS n l) [k,n,c,l]
 |letS {k n q:Tok}{e:Ex}{ts:List Tok}:k.sym=KC->n.sym=gK->q.sym=[61]->Pr 2 [e] ts->PSm (.letS n e) (k::n::q::ts)
 |rep {k i n q:Tok}{e:Ex}{ts:List Tok}:k.sym=KE->i.sym=iK->n.sym=gK->q.sym=[61]->Pr 2 [e] ts->PSm (.rep i n e) (k::i::n::q::ts)
 |def0 {k n l r q:Tok}{e:Ex}{ts:List Tok}:k.sym=Hb->n.sym=gK->l.sym=[40]->r.sym=[41]->q.sym=[61]->Pr 2 [e] ts->PSm (.defS n [] e) (k::n::l::r::q::ts)
 |defS {k n l r q:Tok}{e:Ex}{ps us ts:List Tok}:k.sym=Hb->n.sym=gK->l.sym=[40]->PPm ps us->r.sym=[41]->q.sym=[61]->Pr 2 [e] ts->PSm (.defS n ps e) (k::n::l::(us++r::q::ts))
 |outS {k:Tok}{e:Ex}{ts:List Tok}:k.sym=KD->Pr 2 [e] ts->PSm (.outS k e) (k::ts)
theorem KG{s}(h:PSm s ts):∀t∈ts,t.sym≠[59]:=by
 cases h<;>grind[KF,Hc,kIn,KC,KE,Hb,KD,iK,gK]
inductive PGm:List Sm->List Tok->Prop
 |nil:PGm [] []
 |cons {s:Sm}{ss:List Sm}{ts us:List Tok}{c:Tok}:PSm s ts->c.sym=[59]->PGm ss us->PGm (s::ss) (ts++c::us)
theorem vE{n}:∀(k:Nat) (ts:List Tok),ts.length<=k->∀r ps Q,PPm ps Q->fA n ts (gH::r)=-1->∃j us v,ts=us++v/\PPm j (Q++us)/\fA n v r=-1
 |k,ts,O,r,ps,Q,aM,X=>by
  rw[iF xab]at X
  by_cases c:hdS ts=[44]
  ·rw[show gq gH (hdS ts)=[[44],[110,97,109,101],gH] by rw[c];rfl]at X
   obtain⟨o,us,rfl,ho,X⟩:=eP xab X
   obtain⟨t,f,rfl,ht,X⟩:=eP xab X
   match k,O with
   |0,O=>simp at O
   |k+1,O=>
    obtain⟨j,p,v,rfl,h3,X⟩:=vE k f (by simp at O;omega) r (ps++[t]) (Q++[o,t]) (.more aM ho ht) X
    exact⟨j,o::t::p,v,by simp,by simpa using h3,X⟩
  ·rw[show gq gH (hdS ts)=[] by
    unfold gq
    rw[hC xab,hC xab,hD rfl,hC c]]at X
   exact⟨ps,[],ts,rfl,by simpa using aM,X⟩
theorem zO{n}:∀(k:Nat) (ts:List Tok),ts.length<=k->fA n ts [iq]=-1->∃ss,PGm ss ts
 |k,ts,O,X=>by
  rw[iF xab]at X
  unfold gq at X
  rw[hD rfl]at X
  generalize hdS ts=s at X
  have g:∀{us:List Tok},us.length<ts.length->fA n us [iq]=-1->∃ss,PGm ss us:=λ{us} af h=>by
   match k,O with
   |0,O=>omega
   |k+1,O=>exact zO k us xaa h
  by_cases bP:s=[105,110]
  ·rw[hD bP]at X
   obtain⟨aw,us,rfl,F,X⟩:=eP xab X
   obtain⟨ak,us,rfl,N,X⟩:=eP xab X
   obtain⟨aR,us,rfl,h3,X⟩:=eP xab X
   obtain⟨bM,us,rfl,a6,X⟩:=eP xab X
   obtain⟨bQ,us,rfl,bF,X⟩:=eP xab X
   obtain⟨ss,aJ⟩:=g yag X
   exact⟨_,.cons (ts:=[aw,ak,aR,bM]) (.inS F N h3 a6) bF aJ⟩
  rw[hC bP]at X
  by_cases aq:s=[108,101,116]
  ·rw[hD aq]at X
   obtain⟨aw,us,rfl,F,X⟩:=eP xab X
   obtain⟨ak,us,rfl,N,X⟩:=eP xab X
   obtain⟨aR,us,rfl,h3,X⟩:=eP xab X
   obtain⟨e,us,v,rfl,a6,X⟩:=qt X
   obtain⟨bQ,i,rfl,bF,X⟩:=eP xab X
   obtain⟨ss,aJ⟩:=g yag X
   exact⟨_,.cons (ts:=aw::ak::aR::us) (.letS F N h3 a6) bF aJ⟩
  rw[hC aq]at X
  by_cases aN:s=[114,101,112,101,97,116]
  ·rw[hD aN]at X
   obtain⟨aw,us,rfl,F,X⟩:=eP xab X
   obtain⟨ak,us,rfl,N,X⟩:=eP xab X
   obtain⟨aR,us,rfl,h3,X⟩:=eP xab X
   obtain⟨bM,us,rfl,a6,X⟩:=eP xab X
   obtain⟨e,us,v,rfl,bp,X⟩:=qt X
   obtain⟨bQ,i,rfl,bF,X⟩:=eP xab X
   obtain⟨ss,aJ⟩:=g yag X
   exact⟨_,.cons (ts:=aw::ak::aR::bM::us) (.rep F N h3 a6 bp) bF aJ⟩
  rw[hC aN]at X
  by_cases be:s=[100,101,102]
  ·rw[hD be]at X
   obtain⟨aw,us,rfl,F,X⟩:=eP xab X
   obtain⟨ak,us,rfl,N,X⟩:=eP xab X
   obtain⟨aR,us,rfl,h3,X⟩:=eP xab X
   have X:fA n us (kR::[41]::[61]::gL::[59]::[iq])=-1:=X
   rw[iF xab]at X
   by_cases c:hdS us=[110,97,109,101]
   ·rw[show gq kR (hdS us)=[[110,97,109,101],gH] by rw[c];rfl]at X
    obtain⟨t,f,rfl,ht,X⟩:=eP xab X
    obtain⟨ps,p,v,rfl,aM,X⟩:=vE f.length f yad _ [t] [t] (.one ht) X
    obtain⟨bU,us,rfl,bp,X⟩:=eP xab X
    obtain⟨bI,us,rfl,aj,X⟩:=eP xab X
    obtain⟨e,us,v,rfl,ax,X⟩:=qt X
    obtain⟨bQ,i,rfl,bF,X⟩:=eP xab X
    obtain⟨ss,aJ⟩:=g yag X
    have:=PGm.cons (ts:=aw::ak::aR::(t::p++bU::bI::us)) (.defS F N h3 aM bp aj ax) bF aJ
    exact⟨_,by simpa using this⟩
   ·rw[show gq kR (hdS us)=[] by
     unfold gq
     rw[hC xab,hD rfl,hC c]]at X
    obtain⟨bU,us,rfl,bp,X⟩:=eP xab X
    obtain⟨bI,us,rfl,aj,X⟩:=eP xab X
    obtain⟨e,us,v,rfl,ax,X⟩:=qt X
    obtain⟨bQ,i,rfl,bF,X⟩:=eP xab X
    obtain⟨ss,aJ⟩:=g yag X
    exact⟨_,.cons (ts:=aw::ak::aR::bU::bI::us) (.def0 F N h3 bp aj ax) bF aJ⟩
  rw[hC be]at X
  by_cases bz:s=[111,117,116]
  ·rw[hD bz]at X
   obtain⟨aw,us,rfl,F,X⟩:=eP xab X
   obtain⟨e,us,v,rfl,a6,X⟩:=qt X
   obtain⟨bQ,i,rfl,bF,X⟩:=eP xab X
   obtain⟨ss,aJ⟩:=g yag X
   exact⟨_,.cons (ts:=aw::us) (.outS F a6) bF aJ⟩
  rw[hC bz]at X
  cases ts with
  |nil=>exact⟨_,.nil⟩
  |cons t ts=>
   rw[List.nil_append,fA,m4]at X
   simp only at X
   omega
theorem KH{n}(h:fA n ts [iq]=-1):∃ss,PGm ss ts:=zO ts.length ts yad h
inductive Bdg where
 |val (nm:List UInt8) (v:Nat)
 |fn (nm:List UInt8) (ps:List Tok) (e:Ex)
def Bdg.nm:Bdg->List UInt8
 |.val n _=>n
 |.fn n _ _=>n
structure LSt where
 ins:List Int
 vs:List Vl
 outs:List Int
 names:List Bdg
 calls:Nat
abbrev Hd:=Int×Nat
abbrev Rs(α:Type):=Except Hd α
def fN(st:LSt)(v:Vl)(p:Nat):Rs (LSt×Nat):=if jY (st.vs++[v])=true then .error (5,p)else .ok ({st with vs:=st.vs++[v]},st.vs.length)
def eX(st:LSt)(i:Nat):Int:=(st.vs.getD i hF).len
def iQ(ns:List Bdg)(s:List UInt8):Option Bdg:=ns.find? λb=>b.nm==s
def Bs(loc:List (List UInt8×Nat))(s:List UInt8):Option Nat:=(loc.find? λb=>b.1==s).map (·.2)
def fx(st:LSt)(loc:List (List UInt8×Nat))(t:Tok):Rs Nat:=
 match Bs loc t.text with
 |some v=>.ok v
 |none=>match iQ st.names t.text with
  |some (.val _ v)=>.ok v
  |_=>.error (3,t.pos)
def pI(st:LSt)(xs:List Nat):Int:=xs.foldl (λn i=>if n<eX st i then eX st i else n) 1
def iC(n:Int)(p:Nat):LSt->List Nat->Rs (LSt×List Nat)
 |st,[]=>.ok (st,[])
 |st,i::r=>if eX st i<n then
   match fN st (eK 10 n (i:Int) 0 0) p with
   |.error f=>.error f
   |.ok (st1,j)=>match iC n p st1 r with
    |.error f=>.error f
    |.ok (st2,js)=>.ok (st2,j::js)
  else match iC n p st r with
   |.error f=>.error f
   |.ok (st2,js)=>.ok (st2,i::js)
def jJ(st:LSt)(xs:List Nat)(p:Nat):Rs (LSt×List Nat):=if xs.all (λi=>eX st i==pI st xs||eX st i==1)=true then iC (pI st xs) p st xs else .error (4,p)
def ik(t:List UInt8):Int:=t.foldl (λv b=>v*10+((b.toNat:Int)-48)) 0
def oB(t:List UInt8):Nat:=cop .quo (floatOfInt .f64 (nds (gV t)).1) (floatOfInt .f64 (nds (gV t)).2.1)
def qC(s:List UInt8):Int:=if s=[43]then 2 else if s=[45]then 3 else if s=[42]then 4 else 5
def iJ(st:LSt)(m:List Vl×Int)(p:Nat):Rs (LSt×Nat):=if jY m.1=true then .error (5,p)else .ok ({st with vs:=m.1},m.2.toNat)
def lV(st:LSt)(k:Tok)(a:Nat)(n:Tok):Rs (LSt×Nat):=
 if k.sym=ql then
  if eX st a<=ik n.text then .error (4,n.pos)else fN st (eK 11 1 (a:Int) 0 (ik n.text)) k.pos
 else if eX st a≠1 then .error (4,k.pos)
 else if ik n.text<1\/1000<ik n.text then .error (4,n.pos)else fN st (eK 10 (ik n.text) (a:Int) 0 0) k.pos
def lW(st:LSt)(k:Tok)(a:Nat)(i n:Tok):Rs (LSt×Nat):=
 if eX st a≠1 then .error (4,k.pos)
 else if ik n.text<1\/1000<ik n.text then .error (4,n.pos)
 else if ik n.text<=ik i.text then .error (4,i.pos)else fN st (eK 12 (ik n.text) (a:Int) 0 (ik i.text)) k.pos
def qD(st:LSt)(o:Tok)(a b:Nat):Rs (LSt×Nat):=
 match jJ st [a,b] o.pos with
 |.error f=>.error f
 |.ok (s2,f)=>fN s2 (eK (qC o.sym) (eX s2 (f.getD 0 0)) (f.getD 0 0:Nat) (f.getD 1 0:Nat) 0) o.pos
def qE(st:LSt)(k:Tok)(a b:Nat):Rs (LSt×Nat):=
 match jJ st [a,b] k.pos with
 |.error f=>.error f
 |.ok (s2,f)=>
  if k.sym=AY then fN s2 (eK 7 (eX s2 (f.getD 0 0)) (f.getD 0 0:Nat) (f.getD 1 0:Nat) 0) k.pos
  else match fN s2 (eK 4 (eX s2 (f.getD 0 0)) (f.getD 0 0:Nat) (f.getD 1 0:Nat) 0) k.pos with
   |.error f=>.error f
   |.ok (s3,p)=>fN s3 (eK 9 1 (p:Int) 0 0) k.pos
def xQ(st:LSt)(k:Tok)(a b c:Nat):Rs (LSt×Nat):=
 match jJ st [a,b,c] k.pos with
 |.error f=>.error f
 |.ok (s2,f)=>fN s2 (eK 8 (eX s2 (f.getD 0 0)) (f.getD 0 0:Nat) (f.getD 1 0:Nat) (f.getD 2 0:Nat)) k.pos
def py(st:LSt)(k:Tok)(a x:Nat):Rs (LSt×Nat):=if eX st a≠1 then .error (4,k.pos)else iJ st (grM st.vs a x) k.pos
def pJ(st:LSt)(k:Tok)(a x d:Nat):Rs (LSt×Nat):=
 if eX st d=1/\1<eX st x then
  match fN st (eK 10 (eX st x) (d:Int) 0 0) k.pos with
  |.error f=>.error f
  |.ok (s2,d2)=>iJ s2 (jH s2.vs a x d2) k.pos
 else if eX st d≠eX st x then .error (4,k.pos)else iJ st (jH st.vs a x d) k.pos
abbrev Loc:=List (List UInt8×Nat)
def jp(r:Option (Rs (LSt×Nat)))(f:LSt->Nat->Option (Rs (LSt×Nat))):Option (Rs (LSt×Nat)):=
 match r with
 |none=>none
 |some (.error e)=>some (.error e)
 |some (.ok (st,a))=>f st a
def fY(ev:LSt->Ex->Option (Rs (LSt×Nat))):LSt->List Ex->Option (Rs (LSt×List Nat))
 |st,[]=>some (.ok (st,[]))
 |st,e::r=>match ev st e with
  |none=>none
  |some (.error f)=>some (.error f)
  |some (.ok (s1,a))=>match fY ev s1 r with
   |none=>none
   |some (.error f)=>some (.error f)
   |some (.ok (s2,xs))=>some (.ok (s2,a::xs))
def eM:Nat->LSt->Loc->Ex->Option (Rs (LSt×Nat))
 |0,_,_,_=>none
 |_+1,st,_,.num t=>some (fN st ⟨1,1,0,0,0,oB t.text⟩ t.pos)
 |_+1,st,loc,.name t=>some (match fx st loc t with|.error f=>.error f|.ok v=>.ok (st,v))
 |f+1,st,loc,.neg o e=>jp (eM f st loc e) λs a=>some (fN s (eK 6 (eX s a) (a:Int) 0 0) o.pos)
 |f+1,st,loc,.bin o a b=>jp (eM f st loc a) λs1 x=>jp (eM f s1 loc b) λs2 y=>some (qD s2 o x y)
 |f+1,st,loc,.call t es=>
  match iQ st.names t.text with
  |some (.fn _ ps body)=>
   if ps.length=es.length then
    match fY (λs e=>eM f s loc e) st es with
    |none=>none
    |some (.error e)=>some (.error e)
    |some (.ok (s1,xs))=>if 500<=s1.calls then some (.error (5,t.pos))else eM f {s1 with calls:=s1.calls+1} ((ps.map (·.text)).zip xs) body
   else some (.error (3,t.pos))
  |_=>some (.error (3,t.pos))
 |f+1,st,loc,.key1 k e=>jp (eM f st loc e) λs a=>some (if k.sym=yX then fN s (eK 13 (eX s a) (a:Int) 0 0) k.pos else fN s (eK 9 1 (a:Int) 0 0) k.pos)
 |f+1,st,loc,.key2 k a b=>jp (eM f st loc a) λs1 x=>jp (eM f s1 loc b) λs2 y=>some (qE s2 k x y)
 |f+1,st,loc,.key3 k a b c=>jp (eM f st loc a) λs1 x=>jp (eM f s1 loc b) λs2 y=>jp (eM f s2 loc c) λs3 z=>some (xQ s3 k x y z)
 |f+1,st,loc,.keyN k e n=>jp (eM f st loc e) λs a=>some (lV s k a n)
 |f+1,st,loc,.put k e i n=>jp (eM f st loc e) λs a=>some (lW s k a i n)
 |f+1,st,loc,.grad k e x=>match fx st loc x with
  |.error q=>some (.error q)
  |.ok v=>jp (eM f st loc e) λs a=>some (py s k a v)
 |f+1,st,loc,.jvp k e x d=>match fx st loc x with
  |.error q=>some (.error q)
  |.ok v=>jp (eM f st loc e) λs1 a=>jp (eM f s1 loc d) λs2 y=>some (pJ s2 k a v y)
end
section
open Go.RowKit Flt
attribute[local go_sem] eF eE eD
variable{w I ab:World}{M':Nat->Prop}{P g off n:Nat}{ts:List Tok}
structure Mv(M:Nat->Prop)(W:World)(M':Nat->Prop)(W':World):Prop where
 chg:Chg M W W'
 new:∀b,M' b->M b\/W.heap.size<=b
theorem Mv.refl(M W):Mv M W M W:=⟨(Kept.refl 0 0 W).chg,λ_ h=>.inl h⟩
theorem Mv.keep{M W az bS}(h:Mv M W M' az)(k:Kept 0 0 az bS):Mv M W M' bS:=
 ⟨⟨k.os.trans h.chg.os,k.tape.trans h.chg.tape,k.output.trans h.chg.output,yao h.chg.size k.size,λi hi ad=>(k.block i (yak hi h.chg.size) xaa).trans (h.chg.block i hi ad)⟩,h.new⟩
theorem Mv.of{M W}(k:Kept 0 0 W I):Mv M W M I:=(Mv.refl M W).keep k
theorem Mv.trans{M e W}(h:Mv M W M' I)(k:Mv M' I e ab):Mv M W e ab where
 chg:=⟨k.chg.os.trans h.chg.os,k.chg.tape.trans h.chg.tape,k.chg.output.trans h.chg.output,yao h.chg.size k.chg.size,λi hi ad=>(k.chg.block i (yak hi h.chg.size) (λc=>(h.new i c).elim ad (λc=>by omega))).trans (h.chg.block i hi ad)⟩
 new:=λb hb=>(k.new b hb).elim (h.new b) (λc=>.inr (yao h.chg.size c))
theorem Mv.bad{M W}(h:Mv M W M' I)(k:Chg M' I ab):Chg M W ab:=
 ⟨k.os.trans h.chg.os,k.tape.trans h.chg.tape,k.output.trans h.chg.output,yao h.chg.size k.size,λi hi ad=>(k.block i (yak hi h.chg.size) (λc=>(h.new i c).elim ad (λc=>by omega))).trans (h.chg.block i hi ad)⟩
structure TkR(M:Nat->Prop)(W:World)(a:Option Addr)(n:Nat)(ts:List Tok):Prop where
 len:ts.length=n
 at_:0<n->∃g off,a=some ⟨g,off,none⟩/\¬M g/\TkA W g off n ts
theorem TkA.keepC{B S}(h:TkA w g off n ts)(k:Chg S w B)(aK:¬S g):TkA B g off n ts:=
 ⟨h.len,yak h.lt k.size,λj hj=>(k.cell (p:=⟨g,off+j*3,none⟩) h.lt aK).trans (h.c0 j hj),λj hj=>(k.cell (p:=⟨g,off+j*3+1,none⟩) h.lt aK).trans (h.c1 j hj),λj hj=>(k.cell (p:=⟨g,off+j*3+2,none⟩) h.lt aK).trans (h.c2 j hj)⟩
theorem TkR.mv{M W a}(h:TkR M W a n ts)(k:Mv M W M' I):TkR M' I a n ts:=
 ⟨h.len,λad=>by
  obtain⟨g,off,e,F,N⟩:=h.at_ ad
  exact⟨g,_,e,λc=>(k.new g c).elim F (λc=>hJ N.lt),N.keepC k.chg F⟩⟩
theorem ug(ts:List Tok)(i j k)(O:k<j-i):((ts.drop i).take (j-i)).getD k hG=ts.getD (i+k) hG:=by
 simp_all
theorem TkA.cut(h:TkA w g off n ts){i j}(hj:j<=n):TkA w g (off+i*3) (j-i) ((ts.drop i).take (j-i)):=by
 have af:=h.len;refine⟨by grind,h.lt,λk O=>?_,λk O=>?_,λk O=>?_⟩
 ·rw[ug _ i j k O,show off+i*3+k*3=off+(i+k)*3 by omega];exact h.c0 _ xaa
 ·rw[ug _ i j k O,show off+i*3+k*3=off+(i+k)*3 by omega];exact h.c1 _ xaa
 rw[ug _ i j k O,show off+i*3+k*3=off+(i+k)*3 by omega];exact h.c2 _ xaa
structure Dgs(l:List UInt8):Prop where
 len:l.length<=15
 d:∀k,k<l.length->48<=bt l k/\bt l k<=57
def ki(x:List UInt8):Prop:=wQ (gV x)/\(gV x).countP dig<=15
structure TsOK(ts:List Tok):Prop where
 n5:ts.length<=5000
 ti:∀t∈ts,t.sym=iK->Dgs t.text
 tn:∀t∈ts,(t.sym=iK\/t.sym=lk)->ki t.text
structure Bc where
 nm:List UInt8
 fn:Bool
 val:Int
 pa:Option Addr
 pn:Nat
 pc:Nat
 ba:Option Addr
 bn:Nat
 bc:Nat
def hH:Bc:=⟨[],false,0,none,0,0,none,0,0⟩
def Bc.cells(b:Bc):List Value:=[eN b.nm,.bool b.fn,.int .i64 b.val,.slice b.pa b.pn b.pc,.slice b.ba b.bn b.bc]
def bcF:List Bc->List Value
 |[]=>[]
 |b::r=>b.cells++bcF r
theorem xR(a b):bcF (a++b)=bcF a++bcF b:=by
 induction a<;>grind[bcF]
theorem xS(b):bcF [b]=b.cells:=by simp[bcF]
theorem He:∀(a:List Bc) (k j:Nat),k<a.length->j<5->(bcF a)[k*5+j]? =(a.getD k hH).cells[j]?
 |x::r,0,j,_,hj=>by
  grind[bcF,Bc.cells]
 |x::r,k+1,j,O,hj=>by
  have an:x.cells.length=5:=rfl
  rw[bcF,yas xaa,an,show(k+1)*5+j-5=k*5+j by omega]
  exact He r k j (by grind) hj
def BcOK(M:Nat->Prop)(W:World)(b:Bc):Bdg->Prop
 |.val nm v=>b.nm=nm/\b.fn=false/\b.val=(v:Int)
 |.fn nm ps e=>b.nm=nm/\b.fn=true/\TkR M W b.pa b.pn ps/\∃ts,Pr 2 [e] ts/\(TsOK ts/\b.bn<=b.bc)/\TkR M W b.ba b.bn ts
theorem BcOK.mv{M W b d}(h:BcOK M W b d)(k:Mv M W M' I):BcOK M' I b d:=by
 cases d with
 |val bb v=>exact h
 |fn bb ps e=>
  obtain⟨F,N,h3,ts,a6,bF,bp⟩:=h;exact⟨F,N,h3.mv k,_,a6,bF,bp.mv k⟩
def Mst(P:Nat)(u1 u2 u3 u4:Value)(b:Nat):Prop:=b=P\/u1.ownBlock=some b\/u2.ownBlock=some b\/u3.ownBlock=some b\/u4.ownBlock=some b
structure WS(W:World)(P B:Nat)(u1 u2 u3 u4:Value)(bs:List Bc)(st:LSt):Prop where
 lt:P<W.heap.size
 fr:∀o,W.frozen? ⟨P,o,none⟩=false
 c0:W.cell? ⟨P,0,none⟩=some u1
 c1:W.cell? ⟨P,1,none⟩=some u2
 c2:W.cell? ⟨P,2,none⟩=some u3
 c3:W.cell? ⟨P,3,none⟩=some u4
 c4:W.cell? ⟨P,4,none⟩=some (.int .i64 (st.calls:Int))
 c5:W.cell? ⟨P,5,none⟩=some (.int .i64 0)
 c6:W.cell? ⟨P,6,none⟩=some (.int .i64 0)
 r1:W.ownsRow B 3 1 u1 st.ins.length (st.ins.map (Value.int .i64))
 r2:W.ownsRow B 62 6 u2 st.vs.length (fF st.vs)
 r3:W.ownsRow B 3 1 u3 st.outs.length (st.outs.map (Value.int .i64))
 r4:W.ownsRow B 157 5 u4 bs.length (bcF bs)
 np:u1.ownBlock≠some P/\u2.ownBlock≠some P/\u3.ownBlock≠some P/\u4.ownBlock≠some P
 ap:Apart u1 u2/\Apart u1 u3/\Apart u1 u4/\Apart u2 u3/\Apart u2 u4/\Apart u3 u4
 nl:bs.length=st.names.length
 nb:∀i,i<bs.length->BcOK (Mst P u1 u2 u3 u4) W (bs.getD i hH) (st.names.getD i (.val [] 0))
 sz:B<=P
theorem Apart.symm{u v}(h:Apart u v):Apart v u:=λk O aB=>h k aB O
theorem WS.keep{W J u1 u2 u3 u4 bs st}(h:WS W P J u1 u2 u3 u4 bs st)(k:Kept 0 0 W I):WS I P J u1 u2 u3 u4 bs st:=by
 have e:∀o,_:=λo=>k.cell (p:=⟨P,o,none⟩) h.lt xaa;exact⟨yak h.lt k.size,λo=>(k.frozen h.lt xaa).trans (h.fr o),(e 0).trans h.c0,(e 1).trans h.c1,(e 2).trans h.c2,(e 3).trans h.c3,(e 4).trans h.c4,(e 5).trans h.c5,(e 6).trans h.c6,eO h.r1 k,eO h.r2 k,eO h.r3 k,eO h.r4 k,h.np,h.ap,h.nl,λi hi=>(h.nb i hi).mv (Mv.of k),h.sz⟩
def TrO(W:World)(P B:Nat)(u1 u2 u3 u4:Value)(bs:List Bc)(r:Rs (LSt×Nat))(e:Ending)(W':World):Prop:=
 match r with
 |.error (c,p)=>e=.returned (.int .i64 (-1))/\W'.cell? ⟨P,5,none⟩=some (.int .i64 c)/\W'.cell? ⟨P,6,none⟩=some (.int .i64 (p:Int))/\Chg (Mst P u1 u2 u3 u4) W W'
 |.ok (st,v)=>e=.returned (.int .i64 (v:Int))/\∃v1 v2 v3 v4,WS W' P B v1 v2 v3 v4 bs st/\Mv (Mst P u1 u2 u3 u4) W (Mst P v1 v2 v3 v4) W'
structure Bad(W:World)(P:Nat)(M:Nat->Prop)(c:Int)(p:Nat)(W':World):Prop where
 c5:W'.cell? ⟨P,5,none⟩=some (.int .i64 c)
 c6:W'.cell? ⟨P,6,none⟩=some (.int .i64 (p:Int))
 chg:Chg M W W'
theorem jq{W}(bF:W.cell? ⟨P,5,none⟩=some (hA 0))(bp:W.cell? ⟨P,6,none⟩=some (hA 0))(fr:∀o,W.frozen? ⟨P,o,none⟩=false)(c)(p:Nat)(M)(bx:M P):
  Calls prog 100 #[hy P,hA c,hA p] W λe I=>e=.returned (hA (-1))/\Bad W P M c p I:=by
 have ap:=fr 5;have ar:=fr 6;have R1:E (((W.setCell _ _).setCell ⟨P,6,_⟩ (hA p)).cell? _=some (hA c)):=(eQ _ _ _ _ _ _ (.inr xaa)).trans (fy _ _ _ _ _ bF);have R2:E (((W.setCell ⟨P,5,_⟩ (hA c)).setCell _ (hA p)).cell? _=some _):=fy _ _ _ _ _ ((eQ _ _ _ _ _ _ (.inr xaa)).trans bp);have R3:E _:=Chg.andThen ((eR W ⟨P,5,none⟩ (hA c) yac).chg1 bx) ((eR _ ⟨P,6,none⟩ (hA p) yac).chg1 bx);clear fr bx;go_enter func100,ntmps100;go_wp2;go_ret;exact⟨rfl,R1.o,R2.o,R3.o⟩
end
section
open Go.RowKit Flt Ieee
variable{x:List UInt8}
theorem KJ(s f e):∃r,double.nearest s f e=W s r/\r<=9218868437227405312:=by
 unfold Ieee.Format.nearest;by_cases h:f=0
 ·rw[hD h,sh];grind
 rw[hC h];simp only[sh,we];exact⟨_,rfl,Nat.min_le_right _ _⟩
theorem zP(neg n e):Ieee.Toward.cut .even neg n e<=n+1:=by
 unfold Ieee.Toward.cut;simp only;exact Nat.add_le_add (Nat.div_le_self _ _) (Bool.toNat_le _)
theorem uh(f)(h:f<=10000000000000000):∃r,double.nearest false f 0=W false r/\r<9218868437227405312/\(0<f->0<r):=by
 unfold Ieee.Format.nearest;by_cases al:f=0
 ·rw[hD al,sh];grind
 rw[hC al];simp only[sh,we,qN,sJ,JH]
 have bA:f.log2<=53:=by
  have:=(Nat.log2_lt al).2 (show f<2 ^ 54 by omega);omega
 have am:f<2 ^ (f.log2+1):=Nat.lt_log2_self;generalize f.log2=L at*;have af:max ((0:Int)+L-(52:Nat)) (-1074)=L-52:=xaa;rw[af]
 have ad:f<<<(0-((L:Int)-52)).toNat<=10000000000000000:=by
  rw[Nat.shiftLeft_eq];by_cases c:L<=52
  ·have e:(0-((L:Int)-52)).toNat=52-L:=xaa;rw[e];have F:f*2 ^ (52-L)<=2 ^ (L+1)*2 ^ (52-L):=Nat.mul_le_mul_right _ (Nat.le_of_lt am);rw[<-Nat.pow_add,show L+1+(52-L)=53 by omega]at F;omega
  grind
 have O:=zP false (f<<<(0-((L:Int)-52)).toNat) ((L:Int)-52-0).toNat;generalize Ieee.Toward.cut _ _ _ _=K at*;have hi:((L:Int)-52- -1074).toNat=L+1022:=xaa;rw[hi];refine⟨_,rfl,?_,λ_=>?_⟩<;>omega
theorem Hf{s r}(h:r<=9218868437227405312):(double.read (W s r)).isNaN=false:=by
 rcases Nat.lt_or_eq_of_le h with h|rfl
 ·rw[lJ h];rfl
 rw[nJ];rfl
theorem KK{n d}(al:0<=n)(F:n<=10000000000000000)(N:1<=d)(h3:d<=10000000000000000):(f64.read (cop .quo (floatOfInt .f64 n) (floatOfInt .f64 d))).isNaN=false:=by
 obtain⟨r,ae,aD,_⟩:=uh n.natAbs xaa;obtain⟨q,a9,ap,aY⟩:=uh d.natAbs xaa
 have f1:floatOfInt .f64 n=W false r:=by
  rw[<-ae];show double.nearest (decide (n<0)) n.natAbs 0=_;grind
 have f2:floatOfInt .f64 d=W false q:=by
  rw[<-a9];show double.nearest (decide (d<0)) d.natAbs 0=_;grind
 rw[f1,f2];have bx:=Ph (aY xaa);have e:floatBits .quo .f64 _ _=((double.read (W false r)).quotient (double.fractionBits+2) (double.read (W false q))).map double.write:=rfl;unfold cop;rw[e,lJ aD,lJ ap];simp only[Ieee.Datum.quotient,hC (show ¬M q=0 by omega),Option.map_some,Option.getD_some,Ieee.Format.write];obtain⟨z,ai,bv⟩:=KJ (false ^^ false) (2*((M r<<<(double.fractionBits+2+(M q).log2-(M r).log2))/M q)+((M r<<<(double.fractionBits+2+(M q).log2-(M r).log2))%M q !=0).toNat) (-1074+(Eaa r:Nat)-(-1074+(Eaa q:Nat))-(double.fractionBits+2+(M q).log2-(M r).log2:Nat)-1);rw[ai];exact Hf bv
theorem KL(h:ki x):(f64.read (oB x)).isNaN=false:=by
 obtain⟨⟨p,aM⟩,aK⟩:=h;obtain⟨F,N,h3,a6⟩:=uZ _ aM.digit _ yad (aM.short aK);rw[yap yad]at F N h3 a6;exact KK F N h3 a6
theorem rt(h:ki x){f c}(k:RN (gV x) f c):f=oB x/\c=0:=by
 rcases k with⟨F,_⟩|⟨_,N,_⟩|⟨_,_,_,a6,bF⟩
 ·exact absurd h.1 F
 ·have:=h.2;omega
 refine⟨?_,bF⟩;rcases mC a6 with e|⟨_,e⟩<;>grind[KL,oB]
end
section
open Go.RowKit Flt
theorem mP(w e s):Kept 0 0 w (Lib.bytesWorld w e s):=
 ⟨rfl,rfl,rfl,hN Lib.bytesWorld_size,λk O _=>Lib.bytesWorld_at_old w e s k O⟩
theorem qF(w e t):YS (Lib.bytesWorld w e ⟨t.toArray⟩) (some ⟨w.heap.size,0,none⟩) t.length (gV t) where
 len:=by unfold gV;rw[List.length_map]
 lt:=λx an=>by
  unfold gV at an
  obtain⟨b,_,rfl⟩:=List.mem_map.1 an
  have:=b.toNat_lt
  omega
 at_:=.inr ⟨w.heap.size,0,rfl,hN Lib.bytesWorld_size,λk O=>by
  rw[Nat.zero_add,Lib.bytesWorld_cell w e ⟨t.toArray⟩ k O,qV t k O]
  rfl⟩
theorem sF{x}(h:ki x):x.length<=16:=by
 obtain⟨⟨p,aM⟩,aK⟩:=h;have:=aM.short aK;unfold gV at this;rwa [List.length_map]at this
theorem Cu(x):oB x<18446744073709551616:=kM _ _ _
end
section
open Go.RowKit Flt
attribute[local go_sem] eF eE eD
variable{x y:List UInt8}{P J cap:Nat}{ts:List Tok}{a:Option Addr}{v u1 u2 u3 u4:Value}{vs:List Vl}{bs:List Bc}{st:LSt}
theorem lX{W:World}(f:W.ownsRow J 157 5 v bs.length (bcF bs))(h:0<bs.length):∃g cap,v=hz g bs.length cap/\J<=g/\g<W.heap.size/\bs.length<=cap/\
  ∀k,k<bs.length->W.cell? ⟨g,k*5,none⟩=some (eN (bs.getD k hH).nm)/\W.cell? ⟨g,k*5+1,none⟩=some (.bool (bs.getD k hH).fn)/\W.cell? ⟨g,k*5+2,none⟩=some (hA (bs.getD k hH).val)/\W.cell? ⟨g,k*5+3,none⟩=some (.slice (bs.getD k hH).pa (bs.getD k hH).pn (bs.getD k hH).pc)/\W.cell? ⟨g,k*5+4,none⟩=some (.slice (bs.getD k hH).ba (bs.getD k hH).bn (bs.getD k hH).bc):=by
 rcases f.2 with⟨_,c⟩|⟨g,cap,av,rfl,R,aS,aa,_,b7,ba⟩
 ·omega
 have aJ:g<W.heap.size:=by grind
 have aB:∀k j,k<bs.length->j<5->W.cell? _=(bs.getD k _).cells[j]?:=λk j O hj=>by
  rw[cell_of_row W g _ _ _ _ aS,<-Array.getElem?_toList]
  have:(av.toList.take (bs.length*5))[k*5+j]? =(bcF bs)[k*5+j]?:=by rw[ba]
  rw[List.getElem?_take_of_lt xaa]at this
  rw[this]
  exact He _ k j O hj
 exact⟨g,_,rfl,R,aJ,aa,λk O=>⟨aB k 0 O xaa,aB k 1 O xaa,aB k 2 O xaa,aB k 3 O xaa,aB k 4 O xaa⟩⟩
theorem jr{W:World}(f:W.ownsRow J 157 5 v bs.length (bcF bs)):∃a cap,v=.slice a bs.length cap:=by
 rcases f.2 with⟨e,c⟩|⟨g,cap,av,e,_⟩<;>grind
def PI(bs:List Bc)(s:List UInt8)(r:Int):Prop:=(∃k:Nat,k<bs.length/\r=(k:Int)/\(bs.getD k hH).nm=s/\∀j,j<k->(bs.getD j hH).nm≠s)\/(r=-1/\∀j,j<bs.length->(bs.getD j hH).nm≠s)
theorem rx{W}(c3:W.cell? ⟨P,3,none⟩=some u4)(f:W.ownsRow J 157 5 u4 bs.length (bcF bs))(af:bs.length<=100000)(s):
  Calls prog 102 #[hy P,eN s] W λe I=>∃r,e=.returned (hA r)/\PI bs s r/\I=W:=by
 have bl:E _:=lX f;obtain⟨a,cap,rfl⟩:=jr f;clear f;generalize ad:bs.length=n at af c3 bl;have bm:E _:=ad;clear ad;go_enter func102,ntmps102;go_wp2_with fail;go_loopw [5] (λS I=>I=W/\∃k:Nat,k<=n/\S=hA k/\E (∀j,j<k->(bs.getD j hH).nm≠s)) (λS _=>n-(intOf S).toNat)
 case atStart=>exact⟨rfl,0,yae,rfl,λj hj=>by omega⟩
 case round=>
  obtain⟨rfl,k,O,rfl,aI⟩:=hrel;by_cases aG:k<n
  ·obtain⟨g,ce,e,_,_,_,bp⟩:=bl.o xaa;cases e;have c1:=(bp k aG).1;have HK:E (∀x,(bs.getD k hH).nm=x->x=s->_):=λx F N=>F.trans N;generalize an:(bs.getD k _).nm=x at c1;have ar:E _:=an;clear an bp;cases ap:(x==s)
   ·have H:E (∀j,j<k+1->(bs.getD j _).nm≠s):=λj hj=>by
     by_cases c:j=k
     ·subst c;rw[ar.o];grind
     ·exact aI.o j xaa
    go_wp2_with fail;exact xcd
   have H:E ((bs.getD k hH).nm=s):=by grind
   go_wp2_with fail;go_ret;exact⟨_,rfl,.inl ⟨k,hL bm.o aG,rfl,H.o,aI.o⟩,rfl⟩
  obtain rfl:k=n:=xaa;go_wp2_with fail;go_ret;exact⟨_,rfl,.inr ⟨rfl,hL bm.o aI.o⟩,rfl⟩
theorem Hg(s w):Calls prog 121 #[eN s] w λe B=>e=.returned (hA (qC s))/\B=w:=by
 unfold qC;by_cases al:s=[43]
 ·rw[hD al];have bn:(s==[43])=true:=by grind
  clear al;exact xei
 rw[hC al];have bn:=yax al;by_cases F:s=[45]
 ·rw[hD F];have aX:(s==[45])=true:=by grind
  clear al F;exact xei
 rw[hC F];have aX:=yax F;by_cases N:s=[42]
 ·rw[hD N];have bb:(s==[42])=true:=by grind
  exact xhr
 rw[hC N];have bb:=yax N;exact xhr
theorem ui(x y q)(ts:List Tok)(k)(h:k<ts.length):jz x y q (ts.take (k+1))=iW x y (jz x y q (ts.take k)) (ts.getD k hG):=by
 rw[yau h,lH,yai,yam h];rfl
theorem PJ(x y):∀(ts:List Tok) (q:OpS),(jz x y q ts).i=q.i+ts.length
 |[],q=>rfl
 |t::ts,q=>by
  rw[gN,PJ x y _,yaq]
  grind[iW]
theorem PK(x y):∀(ts:List Tok) (q:OpS),q.d-ts.length<=(jz x y q ts).d/\(jz x y q ts).d<=q.d+ts.length
 |[],q=>by rw[qX];simp
 |t::ts,q=>by
  rw[gN,yaq]
  have F:=PK x y ts (iW x y q t)
  grind[iW]
theorem Qz(x y q t):(iW x y q t).b=iV t.sym:=by unfold iW;grind
def opQ(x y:List UInt8)(ts:List Tok)(k:Nat):OpS:=jz x y ⟨0,0,-1,false⟩ (ts.take k)
theorem PL{k}(h:k<=ts.length):(opQ x y ts k).i=k:=by
 unfold opQ;rw[PJ,List.length_take];show 0+_=_;omega
theorem PM{k}(h:k<ts.length):(opQ x y ts (k+1)).b=iV (ts.getD k hG).sym:=by
 unfold opQ;rw[ui x y _ _ k h,Qz]
theorem Hh{k}(h:k<ts.length):opQ x y ts (k+1)=iW x y (opQ x y ts k) (ts.getD k hG):=ui x y _ ts k h
theorem N9{k:Nat}:-((k:Int))<=(opQ x y ts k).d/\(opQ x y ts k).d<=k:=by
 have h:=PK x y (ts.take k) ⟨0,0,-1,false⟩;have N:(ts.take k).length<=k:=by rw[List.length_take];omega
 unfold opQ;simp only at h;omega
theorem fE(W g off m cap ts)(f:TkA W g off m ts)(am:m<=5000)(x y):
  Calls prog 119 #[.slice (some ⟨g,off,none⟩) m cap,eN x,eN y] W λe I=>e=.returned (hA (opM x y ts))/\I=W:=by
 have HF:E _:=f;have HL:E _:=f.len;have HE:E (opM x y ts=(opQ x y ts m).at_):=by show _=_;unfold opM opQ;rw[<-f.len,List.take_length]
 clear f;rw[HE.o];go_enter func119,ntmps119;go_wp2_with fail;go_loopw [7,8,9] (λZ bR S I=>I=W/\∃k:Nat,k<=m/\S=hA k/\Z=hA (opQ x y ts k).d/\bR=hA (opQ x y ts k).at_) (λ_ _ S _=>m-(intOf S).toNat)
 case atStart=>exact⟨rfl,0,yae,rfl,rfl,rfl⟩
 case round=>
  obtain⟨rfl,k,O,rfl,rfl,rfl⟩:=hrel;by_cases aG:k<m
  ·have U:k<ts.length:=by rw[HL.o];exact aG
   have c0:=HF.o.c0 k aG;have ao:E _:=Hh (x:=x) (y:=y) U;have au:=N9 (x:=x) (y:=y) (ts:=ts) (k:=k);have hi:=PL (x:=x) (y:=y) (ts:=ts) (k:=k) xaa;have u:E (k=0->(opQ x y ts k).b=false):=λh=>by subst h;rfl
   have ar:E (∀q,k=q+1->(opQ x y _ k).b=iV (ts.getD q _).sym):=λq h=>by subst h;exact PM xaa
   have bZ:E (∀q,k=q+1->_):=λq h=>HF.o.c0 q xaa;generalize opQ x y _ k=Q at ao au hi u ar⊢;generalize ts.getD k _=C at c0 ao;obtain⟨j,d,a,b⟩:=Q;simp only at au hi ao u ar⊢;subst hi;by_cases F:C.sym=[40]
   ·have H:E (opQ x y _ _=⟨j+1,d+1,a,_⟩):=ao.o.trans (wW F);have aX:(C.sym==[40])=true:=by rw[F];rfl
    have aQ:IntKind.i64.wrap (d+1)=d+1:=by rw[IntKind.wrap_i64];omega
    generalize C.sym=s at c0 aX;clear F ao u ar bZ U;exact xdk
   by_cases N:C.sym=[41]
   ·have H:E (opQ x y _ _=⟨j+1,d-1,a,_⟩):=ao.o.trans (wX N);have aX:=yax F;have bb:(C.sym==[41])=true:=by rw[N];rfl
    have aQ:IntKind.i64.wrap (d-1)=d-1:=by rw[IntKind.wrap_i64];omega
    generalize C.sym=s at c0 aX bb;clear F N ao u ar bZ U;exact xdk
   have aX:=yax F;have bb:=yax N;have HO:E (¬(d=0/\b=true/\(C.sym=x\/C.sym=y))->opQ x y _ _=⟨j+1,d,a,_⟩):=λh=>ao.o.trans (nY F N h);have aU:E ((d=0/\b=true/\(C.sym=x\/C.sym=y))->opQ x y _ _=⟨j+1,d,j,_⟩):=λh=>ao.o.trans (AZ F N h);clear ao F N;generalize iV _=bY at HO aU;generalize C.sym=s at c0 aX bb HO aU;by_cases aK:d=0
   ·subst aK;cases j with
    |zero=>
     have H:E _:=HO.o (λc=>by have:=u.o rfl;rw[this]at c;exact absurd c.2.1 xac);clear u ar bZ U HO aU;rw[Nat.zero_mul,Nat.add_zero]at c0;go_wp2_with fail;go_roundw;exact⟨trivial,0+1,by omega,by go_num,by rw[H.o],by rw[H.o]⟩;simp[intOf];omega
    |succ q=>
     have hb:=ar.o q rfl;have c1:=bZ.o q rfl;generalize (ts.getD q _).sym=ps at hb c1;have l:E _:=hb;clear hb u ar bZ U;have aQ:IntKind.i64.wrap ((q+1:Nat)-1)=q:=by rw[IntKind.wrap_i64];omega
     have a8:(0:Int)<(q:Nat)+1:=xaa;cases bv:(s==x)
     ·have o:s≠x:=λc=>by rw[c]at bv;simp at bv
      cases p:(s==y)
      ·have aa:s≠y:=λc=>by rw[c]at p;simp at p
       have H:E _:=HO.o (λc=>c.2.2.elim o aa);clear o aa HO aU c1;go_wp2_with fail;go_roundw;exact⟨trivial,q+1+1,by omega,by go_num,by rw[H.o],by rw[H.o]⟩;simp[intOf];omega
      have n:s=y:=by simpa using p
      have ae:E (iV _=false->_):=λh=>HO.o (λc=>by rw[l.o,h]at c;exact absurd c.2.1 xac);have i:E _:=λh=>aU.o ⟨rfl,l.o.trans h,.inr n⟩;clear o n HO aU l;cases bK:(ps==[110,97,109,101])
      case true=>
       have H:E _:=i.o (by show iV ps=_;unfold iV gK iK lk;rw[bK];rfl);clear ae i;go_wp2_with fail;go_roundw;exact⟨trivial,q+1+1,by omega,by go_num,by rw[H.o],by rw[H.o]⟩;simp[intOf];omega
      case false=>
       cases bu:(ps==[105,110,116])
       case true=>
        have H:E _:=i.o (by show iV ps=_;unfold iV gK iK lk;rw[bK,bu];rfl);clear ae i;go_wp2_with fail;go_roundw;exact⟨trivial,q+1+1,by omega,by go_num,by rw[H.o],by rw[H.o]⟩;simp[intOf];omega
       case false=>
        cases p2:(ps==[100,101,99])
        case true=>
         have H:E _:=i.o (by show iV ps=_;unfold iV gK iK lk;rw[bK,bu,p2];rfl);clear ae i;go_wp2_with fail;go_roundw;exact⟨trivial,q+1+1,by omega,by go_num,by rw[H.o],by rw[H.o]⟩;simp[intOf];omega
        case false=>
         cases z:(ps==[41])
         case true=>
          have H:E _:=i.o (by show iV ps=_;unfold iV gK iK lk;rw[bK,bu,p2,z];rfl);clear ae i;go_wp2_with fail;go_roundw;exact⟨trivial,q+1+1,by omega,by go_num,by rw[H.o],by rw[H.o]⟩;simp[intOf];omega
         case false=>
          have H:E _:=ae.o (by show iV ps=_;unfold iV gK iK lk;rw[bK,bu,p2,z];rfl);clear ae i;go_wp2_with fail;go_roundw;exact⟨trivial,q+1+1,by omega,by go_num,by rw[H.o],by rw[H.o]⟩;simp[intOf];omega
     have dg:s=x:=by simpa using bv
     have ae:E (iV _=false->_):=λh=>HO.o (λc=>by rw[l.o,h]at c;exact absurd c.2.1 xac);have i:E _:=λh=>aU.o ⟨rfl,l.o.trans h,.inl dg⟩;clear dg HO aU l;cases bK:(ps==[110,97,109,101])
     case true=>
      have H:E _:=i.o (by show iV ps=_;unfold iV gK iK lk;rw[bK];rfl);clear ae i;go_wp2_with fail;go_roundw;exact⟨trivial,q+1+1,by omega,by go_num,by rw[H.o],by rw[H.o]⟩;simp[intOf];omega
     case false=>
      cases bu:(ps==[105,110,116])
      case true=>
       have H:E _:=i.o (by show iV ps=_;unfold iV gK iK lk;rw[bK,bu];rfl);clear ae i;go_wp2_with fail;go_roundw;exact⟨trivial,q+1+1,by omega,by go_num,by rw[H.o],by rw[H.o]⟩;simp[intOf];omega
      case false=>
       cases p2:(ps==[100,101,99])
       case true=>
        have H:E _:=i.o (by show iV ps=_;unfold iV gK iK lk;rw[bK,bu,p2];rfl);clear ae i;go_wp2_with fail;go_roundw;exact⟨trivial,q+1+1,by omega,by go_num,by rw[H.o],by rw[H.o]⟩;simp[intOf];omega
       case false=>
        cases z:(ps==[41])
        case true=>
         have H:E _:=i.o (by show iV ps=_;unfold iV gK iK lk;rw[bK,bu,p2,z];rfl);clear ae i;go_wp2_with fail;go_roundw;exact⟨trivial,q+1+1,by omega,by go_num,by rw[H.o],by rw[H.o]⟩;simp[intOf];omega
        case false=>
         have H:E _:=ae.o (by show iV ps=_;unfold iV gK iK lk;rw[bK,bu,p2,z];rfl);clear ae i;go_wp2_with fail;go_roundw;exact⟨trivial,q+1+1,by omega,by go_num,by rw[H.o],by rw[H.o]⟩;simp[intOf];omega
   have H:E _:=HO.o (λc=>aK c.1);have hd0:=yax aK;clear u ar bZ U HO aU aK;exact xdk
  obtain rfl:k=m:=xaa;go_wp2_with fail;go_ret;exact⟨rfl,rfl⟩
theorem PN(l k h):(((⟨l.toArray⟩:ByteArray)[k]'h).toNat:Int)=bt l k:=by
 have O:k<l.length:=by rw[<-fX];exact h
 unfold bt;rw[yai,yam O];rfl
theorem vF(l k)(h:k<l.length):ik (l.take (k+1))=ik (l.take k)*10+(bt l k-48):=by
 unfold ik;rw[yau h,List.foldl_append];unfold bt;simp_all
theorem vG{l}(h:Dgs l):∀k,k<=l.length->0<=ik (l.take k)/\ik (l.take k)<10 ^ k
 |0,_=>by rw[List.take_zero];exact⟨by decide,by decide⟩
 |k+1,O=>by
  have G:=vG h k xaa
  have aK:=h.d k xaa
  rw[vF l k xaa,Int.pow_succ]
  omega
theorem PO:∀k:Nat,k<=15->(10:Int) ^ k<=1000000000000000:=by
 intro k O;have:∀k:Fin 16,(10:Int) ^ k.1<=1000000000000000:=xab;exact this ⟨k,by omega⟩
theorem pK{l}(h:Dgs l){k}(O:k<=l.length):0<=ik (l.take k)/\ik (l.take k)<1000000000000000:=by
 have F:=vG h k O;have N:=PO k (hJ h.len);omega
theorem zQ(t)(h:Dgs t.text)(W):Calls prog 103 #[iR t] W λe I=>e=.returned (hA (ik t.text))/\Kept 0 0 W I:=by
 obtain⟨aO,ps,l⟩:=t;simp only at h⊢;unfold iR;simp only;have HD:E _:=h;have af:=h.len;have av:E _:=gW W aO ps l;have HK:E _:=ez 0 0 W (.cells #[eN aO,hA ps,eN l] 119);have au:=fX l;clear h;go_enter func103,ntmps103;go_wp2_with fail;change Code.wp _ _ _ _ (W.alloc (.cells _ 119));generalize W.alloc _=az at av HK⊢;have y2:=av.o.c2;go_loopw [3,4] (λv S I=>I=az/\∃k:Nat,k<=l.length/\S=hA k/\v=hA (ik (l.take k))) (λ_ S _=>l.length-(intOf S).toNat)
 case atStart=>exact⟨rfl,0,yae,rfl,rfl⟩
 case round=>
  obtain⟨rfl,k,O,rfl,rfl⟩:=hrel;by_cases aG:k<l.length
  ·have bN:=PN l k;have aK:=HD.o.d k aG;have hb:=pK HD.o O;have H:E _:=vF l k aG;generalize bt l k=x at bN aK H;generalize ik _=v at hb H⊢;have aQ:IntKind.i64.wrap (v*10)=v*10:=by rw[IntKind.wrap_i64];omega
   have a8:IntKind.u8.wrap (x-48)=x-48:=by grind[IntKind.wrap,IntKind.bits]
   have bi:IntKind.i64.wrap (v*10+(x-48))=v*10+(x-48):=by rw[IntKind.wrap_i64];omega
   have bk:IntKind.i64.wrap (x-48)=x-48:=by rw[IntKind.wrap_i64];omega
   have K:(k:Int)<l.length:=xaa;go_wp2_with fail;go_roundw;exact⟨trivial,k+1,by omega,by go_num,by rw[H.o]⟩;simp[intOf];omega
  obtain rfl:k=l.length:=xaa;have K:¬((l.length:Int)<l.length):=xaa;go_wp2_with fail;go_ret;exact⟨rfl,HK.o⟩
theorem aN.qbq(h:Zp:=by
 have C:g9≠P:=λe=>by
  subst e
  rcases a7 with c|c
  ·exact p2 c
  ·have:=h.lt;omega
 have n2:(Value.slice _ _ _).ownBlock≠some P:=λc=>C ((bU P).1 c);have an:∀o,_:=λo=>bd.cell (p:=⟨P,o,none⟩) h.lt p2;have es:∀o,o≠1->(bj.setCell ⟨P,1,_⟩ (hz g9 n9 cap9)).cell? _=W.cell? _:=λo ho=>(eQ _ _ _ _ _ _ (.inr (λe=>ho e.symm))).trans (an o);have aa:=(eR (lo:=P) (hi:=P+1) bj ⟨P,1,none⟩ (hz g9 n9 cap9) yac)
 have ao:Mv (Mst P u1 u2 u3 u4) W (Mst P u1 (hz g9 n9 cap9) u3 u4) (bj.setCell ⟨P,1,none⟩ (hz g9 n9 cap9)):=by
  refine⟨Chg.andThen ⟨bd.os,bd.tape,bd.output,bd.size,λi hi ad=>bd.block i hi (λc=>ad (.inr (.inr (.inl c))))⟩ (aa.chg1 (.inl rfl)),λb hb=>?_⟩;rcases hb with c|c|c|c|c
  ·exact .inl (.inl c)
  ·exact .inl (.inr (.inl c))
  ·rw[bU]at c;subst c;rcases a7 with d|d
   ·exact .inl (.inr (.inr (.inl d)))
   omega
  ·exact .inl (.inr (.inr (.inr (.inl c))))
  exact .inl (.inr (.inr (.inr (.inr c))))
 exact qdz):Zp:=h
theorem aN.qea(h:Zp:=by
 refine⟨⟨by simpa using yak h.lt bd.size,λo=>?_,(es 0 xab).trans h.c0,fy _ _ _ _ _ ((an 1).trans h.c1),(es 2 xab).trans h.c2,(es 3 xab).trans h.c3,(es 4 xab).trans h.c4,(es 5 xab).trans h.c5,(es 6 xab).trans h.c6,?_,?_,?_,?_,⟨bu,n2,z,q⟩,⟨aY h.r1 l,g,p,(aY h.r3 m.symm).symm,(aY h.r4 r.symm).symm,B⟩,h.nl,λi hi=>(h.nb i hi).mv ao,h.sz⟩,ao⟩
 ·have:=(bd.frozen h.lt p2).trans (h.fr o);simp[this]
 ·exact eI (fi h.r1 bd (λb hb c=>l b hb c)) bu
 ·subst ad;exact eI a6 n2
 ·exact eI (fi h.r3 bd (λb hb c=>m b c hb)) z
 exact eI (fi h.r4 bd (λb hb c=>r b c hb)) q):Zp:=h
open aN in
theorem WS.vals{W bj}(h:WS W P J u1 u2 u3 u4 bs st)(bd:Chg (λb=>u2.ownBlock=some b) W bj){g9 n9 cap9}(ad:n9=vs.length)(a6:bj.ownsRow J 62 6 (hz g9 n9 cap9) n9 (fF vs))(a7:u2.ownBlock=some g9\/W.heap.size<=g9):
  WS (bj.setCell ⟨P,1,none⟩ (hz g9 n9 cap9)) P J u1 (hz g9 n9 cap9) u3 u4 bs {st with vs:=vs}/\Mv (Mst P u1 u2 u3 u4) W (Mst P u1 (hz g9 n9 cap9) u3 u4) (bj.setCell ⟨P,1,none⟩ (hz g9 n9 cap9)):=by
 exact qbp
theorem ja{W:World}{e s n:Nat}{xs}(f:W.ownsRow J e s v n xs):∃a cap,v=.slice a n cap:=by
 rcases f.2 with⟨e,c⟩|⟨g,cap,av,e,_⟩<;>grind
theorem xT{W n xs}(f:W.ownsRow J 3 1 (.slice a n cap) n (xs.map (Value.int .i64)))(af:xs.length=n):IS W 0 W.heap.size a n xs:=by
 refine⟨af,?_⟩;rcases f.2 with⟨_,c⟩|⟨g,c,av,e,R,aS,aa,_,b7,ba⟩
 ·exact .inl c
 cases e;have aJ:g<W.heap.size:=by grind
 refine .inr ⟨g,0,rfl,yae,aJ,aJ,λk O=>?_⟩;rw[Nat.zero_add,cell_of_row W g _ _ _ _ aS,<-Array.getElem?_toList];exact xhu
theorem Hi{W n}(f:W.ownsRow J 62 6 (.slice a n cap) n (fF vs))(af:vs.length=n)(O:∀v∈vs,v.k<18446744073709551616):VS W 0 W.heap.size a n vs:=by
 by_cases al:n=0
 ·exact⟨af,O,.inl al⟩
 obtain⟨g,c,e,R,aS,_,bi⟩:=mX f xaa af;cases e;exact bi.vs O
theorem WS.gs{W}(h:WS W P J u1 u2 u3 u4 bs st)(O:∀v∈st.vs,v.k<18446744073709551616):∃a1 c1 U c2 a3 c3,u1=.slice a1 st.ins.length c1/\u2=.slice U st.vs.length c2/\u3=.slice a3 st.outs.length c3/\GS W a1 st.ins.length U st.vs.length a3 st.outs.length st.ins st.vs st.outs:=by
 obtain⟨a1,c1,ae⟩:=ja h.r1;obtain⟨U,c2,a9⟩:=ja h.r2;obtain⟨a3,c3,ai⟩:=ja h.r3;refine⟨_,_,_,_,_,_,ae,a9,ai,⟨xT (by have:=h.r1;rw[ae]at this;exact this) rfl,Hi (by have:=h.r2;rw[a9]at this;exact this) rfl O,xT (by have:=h.r3;rw[ai]at this;exact this) rfl⟩⟩
structure Gd(st:LSt):Prop where
 n:st.vs.length<=2000
 c:eU st.vs<=50000
 ok:(List.range st.vs.length).all (okV st.ins st.vs)=true
 k:∀v∈st.vs,v.k<18446744073709551616
 i:st.ins.length<=20
 o:st.outs.length<=50
 m:st.names.length<=5000
theorem Gd.len(h:Gd st):∀k,k<st.vs.length->1<=(st.vs.getD k hF).len/\(st.vs.getD k hF).len<=1000:=λk O=>by
 have F:=List.all_eq_true.1 h.ok k (List.mem_range.2 O)
 exact of_decide_eq_true (yI F)
theorem zR{v}(h:∀k,k<vs.length->1<=(vs.getD k hF).len/\(vs.getD k hF).len<=1000)(aO:1<=v.len/\v.len<=1000):∀k,k<(vs++[v]).length->1<=((vs++[v]).getD k hF).len/\((vs++[v]).getD k hF).len<=1000:=λk O=>by
 grind
theorem uj{v}(h:∀u∈vs,u.k<18446744073709551616)(aO:v.k<18446744073709551616):∀u∈vs++[v],u.k<18446744073709551616:=λu aB=>by
 grind
theorem z.qao(h:Zp:=by
 go_region_law
  ((refine step_append_lies _ rfl (.tmp 12) (.tmp 14) 24 rfl J 62 bW (lN 0 0 0 0 0 0) 6 48 underlying24 hi b4 b3 b0 rfl xab _ _ (fF st.vs) (by simp[Act.eval]) (kE a6.o 1 _) ⟨aA.heap.size,0,none⟩ 1 1 v.cells (by simp[Act.eval]) rfl (B7 _ _ _) (FK v) xab (by unfold maxLen;omega) xaa yag _ rfl ?_;intro g9 cap9 bj bF aW bT cz;have aZ:=kG aW be HR.o.1 c1;have bG:=far2 aW be HR.o.1 ca;have ax:=kG aW i HR.o.2 aD;have aU:=kG aW i HR.o.2 a5;have bx:=kG aW i HR.o.2 a7;have cD:=kG aW i HR.o.2 z;have cJ:=kG aW i HR.o.2 G;have cl:=kG aW i HR.o.2 F))
 all_goals
  have bQ:=bT.imp id (λe=>Nat.le_of_eq e.symm)
  have aQ:=(ez 0 0 aA (.cells #[hA v.op,hA v.len,hA v.a,hA v.b,hA v.c,.float .f64 v.k] 62)).trans (eJ 0 0 _ 1)
  have m:bj.ownsRow J 62 6 (hz g9 (aV+1) cap9) (aV+1) (fF (st.vs++[v])):=by rw[mf,qb];exact bF
  obtain⟨(o:E _),H⟩:=(bE.o.keep aQ).vals (gh aW) (by rw[yal,bm.o];rfl) m bQ
  have bf:E _:=(N.o.keep aQ).trans H
  clear H bQ aQ bF m aW bT cz aZ bG ax aU bx cD cJ cl aD a5 a7 z G F ca c1 a6 bE N
  generalize bj.setCell ⟨P,1,_⟩ _=am at o bf⊢
  obtain⟨a1,bo,a2',bw,a3,bR,ae,a9,ai,Z⟩:=o.o.gs bB.o
  simp only at ae ai Z
  subst ae ai
  have HF:E _:=Br _ _ _ _ _ bo _ bw _ bR _ _ _ Z j.o
  have w:(st.vs++[v]).length=aV+1:=by grind
  have u:E _:=λI=>jO I a1 a2' a3 st.ins.length bo (aV+1) bw st.outs.length bR xaa
  rw[w]at HF a9
  clear Z
  have ba:=o.o.c0
  have aP:=o.o.c1
  have y2:=o.o.c2
  cases a9
  cases hb:jY (st.vs++[v])
  ·rw[hb]at HF bL
   have aX:E _:=bL.o.trans (hC xac)
   have n:E (∀I,Kept 0 0 _ I->I.cell? _=some _/\I.cell? _=some _/\I.cell? _=some _):=λI k=>⟨(o.o.keep k).c0,(o.o.keep k).c1,(o.o.keep k).c2⟩
   clear hb bL
   go_wp2_with (first
    |(go_at_call 126;refine yaj HF.o ?_;rintro e K ⟨rfl,f⟩;obtain⟨aY,aC,aL⟩:=n.o _ f)
    |(go_at_call 47;refine yaj (u.o _) ?_;rintro e s ⟨rfl,l⟩))
   go_ret
   rw[aX.o]
   exact⟨by simp,_,_,_,_,(o.o.keep f).keep l,(bf.o.keep f).keep l⟩
  ·rw[hb]at HF bL
   have aX:E _:=bL.o.trans (hD rfl)
   have br:E (∀I,Kept 0 0 _ I->_):=λI k=>jq (o.o.keep k).c5 (o.o.keep k).c6 (o.o.keep k).fr 5 p (Mst P (.slice a1 st.ins.length bo) (hz g9 (aV+1) cap9) (.slice a3 st.outs.length bR) u4) (.inl rfl)
   clear hb bL
   go_wp2_with (first
    |(go_at_call 126;refine yaj HF.o ?_;rintro e K ⟨rfl,f⟩)
    |(go_at_call 100;refine yaj (br.o _ f) ?_;rintro e s ⟨rfl,aB⟩))
   go_ret
   rw[aX.o]
   exact⟨rfl,aB.c5,aB.c6,(bf.o.keep f).bad aB.chg⟩):Zp:=h
open z in
theorem lY{W}(h:WS W P J u1 u2 u3 u4 bs st)(g:Gd st)(v)(aO:1<=v.len/\v.len<=1000)(bg:v.k<18446744073709551616)(p:Nat):
  Calls prog 104 #[hy P,v.agg,hA p] W (TrO W P J u1 u2 u3 u4 bs (fN st v p)):=by
 exact qan
end
section
open Go.RowKit Flt
variable{n:Int}{st:LSt}{p i:Nat}{r:List Nat}
theorem Hj{vs}(h:jY vs=false):vs.length<=2000/\eU vs<=50000:=by
 grind[jY]
theorem Gd.put(g:Gd st){v}(aO:okV st.ins (st.vs++[v]) st.vs.length=true)(O:v.k<18446744073709551616)(af:jY (st.vs++[v])=false):Gd {st with vs:=st.vs++[v]}:=by
 obtain⟨F,N⟩:=Hj af;refine⟨F,N,?_,uj g.k O,g.i,g.o,g.m⟩;rw[List.all_eq_true];intro i hi;have hi':=List.mem_range.1 hi;simp only[yal,List.length_singleton]at hi';by_cases c:i<st.vs.length
 ·exact wI c (List.all_eq_true.1 g.ok i (List.mem_range.2 c))
 grind
theorem Gd.lenB(g:Gd st)(h:i<st.vs.length):1<=eX st i/\eX st i<=1000:=g.len i h
theorem Cv(ins vs v)(al:v.op≠0)(af:1<=v.len/\v.len<=1000)(au:fW v=true)(ho:∀o∈fe v,0<=o/\o<(vs.length:Int))(h:eV v.op v.len v.c ((fe v).map λo=>(vs.getD o.toNat hF).len)=true):okV ins (vs++[v]) vs.length=true:=by
 have aO:(vs++[v]).getD vs.length hF=v:=by simp_all
 have am:((fe v).map λo=>((vs++[v]).getD o.toNat hF).len)=((fe v).map λo=>(vs.getD o.toNat hF).len):=by
  apply List.map_congr_left;intro o e;have:=ho o e;grind
 grind[okV,lenB,fR]
theorem vH(st)(xs:List Nat)(k)(h:k<xs.length):pI st (xs.take (k+1))=if pI st (xs.take k)<eX st (xs.getD k 0)then eX st (xs.getD k 0)else pI st (xs.take k):=by
 unfold pI;rw[yau h,List.foldl_append,yai,yam h];rfl
theorem xU{st}(g:Gd st)(xs:List Nat)(an:∀i∈xs,i<st.vs.length):∀k,k<=xs.length->1<=pI st (xs.take k)/\pI st (xs.take k)<=1000
 |0,_=>by simp_all[pI]
 |k+1,O=>by
  have G:=xU g _ an k xaa
  have am:xs.getD k 0∈xs:=by grind
  have:=g.lenB (an _ am)
  rw[vH _ _ k xaa]
  omega
def um(js:List Nat)(r:Rs (LSt×List Nat)):Rs (LSt×List Nat):=
 match r with
 |.error f=>.error f
 |.ok (s,ks)=>.ok (s,js++ks)
theorem Hk(r):um [] r=r:=by
 cases r with
 |error f=>rfl
 |ok x=>rfl
theorem oC(h:¬eX st i<n):iC n p st (i::r)=um [i] (iC n p st r):=by
 rw[iC,hC h];cases iC n p st r with
 |error f=>rfl
 |ok x=>rfl
theorem pz{s j}(h:eX st i<n)(aM:fN st (eK 10 n (i:Int) 0 0) p=.ok (s,j)):iC n p st (i::r)=um [j] (iC n p s r):=by
 rw[iC,hD h,aM];simp only;cases iC n p s r with
 |error f=>rfl
 |ok x=>rfl
theorem pA{f}(h:eX st i<n)(aM:fN st (eK 10 n (i:Int) 0 0) p=.error f):iC n p st (i::r)=.error f:=by
 rw[iC,hD h,aM]
theorem vI(a b r):um a (um b r)=um (a++b) r:=by
 cases r<;>grind[um]
theorem KM(hi:i<st.vs.length)(F:eX st i=1)(ad:1<=n/\n<=1000):okV st.ins (st.vs++[eK 10 n (i:Int) 0 0]) st.vs.length=true:=by
 refine Cv _ _ _ (show 10≠0 by decide) ad (by rfl) ?_ ?_
 ·grind[fe]
 simp_all[fe,eX,cnt,eV]
end
section
open Go.RowKit Flt
attribute[local go_sem] eF eE eD
variable{P J n:Nat}{u1 u2 u3 u4:Value}{a:Option Addr}{bs:List Bc}{st:LSt}{s:List UInt8}
structure LcR(M:Nat->Prop)(W:World)(a:Option Addr)(n:Nat)(loc:Loc):Prop where
 len:loc.length=n
 at_:0<n->∃g off,a=some ⟨g,off,none⟩/\¬M g/\g<W.heap.size/\∀k,k<n->W.cell? ⟨g,off+k*2,none⟩=some (eN (loc.getD k ([],0)).1)/\W.cell? ⟨g,off+k*2+1,none⟩=some (.int .i64 ((loc.getD k ([],0)).2:Int))
theorem LcR.mv{M M' W I u}(h:LcR M W a n u)(k:Mv M W M' I):LcR M' I a n u:=
 ⟨h.len,λad=>by
  obtain⟨g,off,e,F,N,h3⟩:=h.at_ ad
  exact⟨g,_,e,λc=>(k.new g c).elim F (λc=>by omega),yak N k.chg.size,λj hj=>⟨(k.chg.cell N F).trans (h3 j hj).1,(k.chg.cell N F).trans (h3 j hj).2⟩⟩⟩
theorem LcR.keep{M W I u}(h:LcR M W a n u)(k:Kept 0 0 W I):LcR M I a n u:=h.mv (Mv.of k)
def VlO(W:World)(P:Nat)(M:Nat->Prop)(r:Rs Nat)(e:Ending)(W':World):Prop:=
 match r with
 |.error (c,p)=>e=.returned (.int .i64 (-1))/\Bad W P M c p W'
 |.ok v=>e=.returned (.int .i64 (v:Int))/\Kept 0 0 W W'
theorem pL{K:Type}(p z):∀(l:List K) (k:Nat),k<l.length->p (l.getD k z)=true->(∀j,j<k->p (l.getD j z)=false)->l.find? p=some (l.getD k z)
 |x::r,0,_,h,_=>by simp_all
 |x::r,k+1,O,h,hj=>by
  have al:=hj 0 xaa
  rw[List.find?_cons_of_neg (by grind)]
  exact pL p z r k (by grind) h (λj e=>hj (j+1) xaa)
theorem ry{K:Type}(p z):∀(l:List K),(∀j,j<l.length->p (l.getD j z)=false)->l.find? p=none
 |[],_=>rfl
 |x::r,h=>by
  have al:=h 0 xac
  rw[List.find?_cons_of_neg (by grind)]
  exact ry p z r (λj hj=>h (j+1) (by grind))
theorem vJ{M W b d}(h:BcOK M W b d):b.nm=d.nm:=by cases d<;>exact h.1
theorem oD{W}(h:WS W P J u1 u2 u3 u4 bs st){k}(O:k<bs.length)(F:(bs.getD k hH).nm=s)(N:∀j,j<k->(bs.getD j hH).nm≠s):iQ st.names s=some (st.names.getD k (.val [] 0)):=
 pL (λb:Bdg=>b.nm==s) (.val [] 0) st.names k (hM h.nl O) (by rw[<-vJ (h.nb k O),F];simp) (λj hj=>by rw[<-vJ (h.nb j xaa)];grind)
theorem oX{W}(h:WS W P J u1 u2 u3 u4 bs st)(N:∀j,j<bs.length->(bs.getD j hH).nm≠s):iQ st.names s=none:=
 ry (λb:Bdg=>b.nm==s) (.val [] 0) st.names (λj hj=>by rw[<-vJ (h.nb j (hL h.nl hj))];exact yax (N j (hL h.nl hj)))
theorem xV{W}(h:WS W P J u1 u2 u3 u4 bs st)(am:st.names.length<=5000)(aT Q cL u)(bA:LcR (Mst P u1 u2 u3 u4) W aT Q u)(ad:Q<=5000)(t):
  Calls prog 122 #[hy P,.slice aT Q cL,iR t] W (VlO W P (Mst P u1 u2 u3 u4) (fx st u t)):=by
 obtain⟨aO,ps,bv⟩:=t;have av:E _:=gW W aO ps bv;have aw:=ez 0 0 W (.cells #[eN aO,hA ps,eN bv] 119);have bX:E _:=aw;have bE:E _:=h.keep aw;have a5:E _:=bA.keep aw;have cA:E _:=bA.len;have a9:bs.length<=100000:=hN h.nl
 have bH:E (fx st _ ⟨aO,_,_⟩=match Bs u bv with|some v=>.ok v|none=>match iQ _ bv with|some (.val _ v)=>.ok v|_=>.error (3,ps)):=rfl;generalize fx st _ _=r at bH⊢;unfold iR;simp only;clear aw h bA;go_enter func122,ntmps122;go_wp2_with fail;change Code.wp _ _ _ _ (W.alloc (.cells _ 119));generalize W.alloc _=az at av bX bE a5⊢;go_loopw [7] (λS I=>∃k:Nat,k<=Q/\S=hA k/\E (Kept 0 0 az I)/\E (∀j,j<k->(u.getD j ([],0)).1≠bv)) (λS _=>Q-(intOf S).toNat)
 case atStart=>exact⟨0,yae,rfl,hI,λj hj=>by omega⟩
 case round=>
  obtain⟨k,O,rfl,aI,m⟩:=hrel;by_cases aG:k<Q
  ·obtain⟨g,off,rfl,_,aJ,ah⟩:=(a5.o.keep aI.o).at_ xaa;obtain⟨c1,_⟩:=ah k aG;have c2:=(av.o.keep aI.o).c2
   have HC:E (∀I,Kept 0 0 _ I->I.cell? _=some _):=λI aj=>by
    obtain⟨aq,aQ,e,_,_,aV⟩:=(a5.o.keep aj).at_ xaa
    cases e
    exact(aV k aG).2
   generalize an:(u.getD k _).1=x at c1;have bl:E _:=an;clear an ah;go_upto_region 4 with fail;go_quiet (fail)
   have bO:E _:=Kept.trans aI.o (eJ 0 0 _ nq);clear c1 c2 aI aJ;generalize wr.drewN _=bc at bO⊢;cases ap:(x==bv)
   ·have H:E (∀j,j<k+1->(u.getD j _).1≠bv):=λj hj=>by
     by_cases c:j=k
     ·subst c;rw[bl.o];intro d;rw[d]at ap;simp at ap
     ·exact m.o j xaa
    go_wp2_with fail;go_roundw;exact⟨k+1,by omega,by go_num,bO,H⟩;simp[intOf];omega
   have H:E (r=.ok (u.getD k ([],0)).2):=by
    show _=_
    have af:Bs u bv=some (u.getD k ([],0)).2:=by
     unfold Bs;rw[pL (λb:List _×Nat=>b.1==bv) _ _ k (hL cA.o aG) (by show((u.getD k ([],0)).1==bv)=true;rw[bl.o];exact ap) (λj hj=>yax (m.o j hj))];rfl
    rw[bH.o,af]
   have c3:=HC.o _ bO.o;clear HC;go_wp2_with fail;go_ret;rw[H.o];exact⟨rfl,bX.o.trans bO.o⟩
  obtain rfl:k=Q:=xaa
  have f:E (Bs u bv=none):=by
   show _=_;unfold Bs;rw[ry (λb:List _×Nat=>b.1==bv) _ _ (λj hj=>yax (m.o j (by rw[cA.o]at hj;exact hj)))];rfl
  have bq:E _:=bE.o.keep aI.o;have ck:E _:=av.o.keep aI.o;have C:E _:=bX.o.trans aI.o;have c2:=ck.o.c2;have c1:=ck.o.c1;have aa:E _:=rx bq.o.c3 bq.o.r4 a9 bv;have c3:=bq.o.c3;have br:E _:=jq bq.o.c5 bq.o.c6 bq.o.fr 3 ps (Mst P u1 u2 u3 u4) (.inl rfl);have F:E _:=lX bq.o.r4;obtain⟨a4,cI,aC⟩:=jr bq.o.r4;clear aI m a5 av;subst aC;go_upto_region 7 with (go_at_call 102;refine yaj aa.o ?_;rintro e ag ⟨i,rfl,aX,X⟩;obtain rfl:=X.symm);rcases aX with⟨ak,bP,rfl,l,be⟩|⟨rfl,ad⟩
  ·have bg:E _:=oD bq.o bP l be;have w:E _:=bq.o.nb _ bP;obtain⟨bz,ce,e4,_,_,_,bp⟩:=F.o xaa;cases e4;obtain⟨_,aH,bf,_,_⟩:=bp _ bP;generalize bC:bs.length=nn at*;generalize bs.getD ak _=b at aH bf w;generalize st.names.getD ak _=ai at bg w;have bo:¬((ak:Int)<0):=xaa;cases ai with
   |val bb v=>
    have N:=w.o.2.1;have cq:=w.o.2.2;rw[N]at aH;rw[cq]at bf;have H:E (r=.ok v):=by show _=_;rw[bH.o,f.o,bg.o]
    clear N cq l be bp bC w F;go_wp2_with fail;go_ret;rw[H.o];exact⟨rfl,C.o⟩
   |fn bb ar al=>
    have N:=w.o.2.1;rw[N]at aH;have H:E (r=.error (3,ps)):=by show _=_;rw[bH.o,f.o,bg.o]
    clear N l be bp bC w F bf;go_wp2_with (go_at_call 100;refine yaj br.o ?_;rintro e aF ⟨rfl,aB⟩);go_ret;rw[H.o];exact⟨rfl,aB.c5,aB.c6,(Mv.of C.o).bad aB.chg⟩
  have H:E (r=.error (3,ps)):=by show _=_;rw[bH.o,f.o,oX bq.o ad]
  clear ad F;go_wp2_with (go_at_call 100;refine yaj br.o ?_;rintro e aF ⟨rfl,aB⟩);go_ret;rw[H.o];exact⟨rfl,aB.c5,aB.c6,(Mv.of C.o).bad aB.chg⟩
