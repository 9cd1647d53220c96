import Derived.Test.YtiacbhjphaldlaaGreatDoorP31
namespace Go.Proofs.Z
variable{st A S n ρ e G a am b bm calls es ρ' k loc aO ts c ys names q v}
variable{Zp:Prop}
open Tryz
set_option maxRecDepth 1000000
set_option maxHeartbeats 0
open Go.RowKit Flt
variable{r:Rs (LSt×Nat)}
inductive EOK:Ex->Prop
 |num (t:Tok):EOK (.num t)
 |name (t:Tok):EOK (.name t)
 |neg (o:Tok) {e:Ex}:EOK e->EOK (.neg o e)
 |bin (o:Tok) {a b:Ex}:EOK a->EOK b->EOK (.bin o a b)
 |call (t:Tok) {es:List Ex}:(∀e∈es,EOK e)->EOK (.call t es)
 |key1 (k:Tok) {e:Ex}:EOK e->EOK (.key1 k e)
 |key2 (k:Tok) {a b:Ex}:EOK a->EOK b->EOK (.key2 k a b)
 |key3 (k:Tok) {a b c:Ex}:EOK a->EOK b->EOK c->EOK (.key3 k a b c)
 |keyN (k:Tok) {e:Ex}{n:Tok}:EOK e->Dgs n.text->EOK (.keyN k e n)
 |put (k:Tok) {e:Ex}{i n:Tok}:EOK e->Dgs i.text->Dgs n.text->EOK (.put k e i n)
 |grad (k:Tok) {e:Ex} (x:Tok):EOK e->EOK (.grad k e x)
 |jvp (k:Tok) {e d:Ex} (x:Tok):EOK e->EOK d->EOK (.jvp k e x d)
theorem ji(h:Pr n es ts):(∀t∈ts,t.sym=fx->Dgs t.text)->∀e∈es,EOK e:=by
 have one:∀{P:Ex->Prop}{x:Ex},P x->∀e∈[x],P e:=λh e bl=>by grind
 have b:∀{P:Ex->Prop}{x:Ex},(∀e∈[x],P e)->P x:=λh=>h _ (List.mem_singleton.2 rfl);induction h with
 |up01 _ O=>exact O
 |up12 _ O=>exact O
 |add _ _ _ f g=>exact λY=>one (.bin _ (b (f λt az=>Y t (by simp[az]))) (b (g λt az=>Y t (by simp[az]))))
 |mul _ _ _ f g=>exact λY=>one (.bin _ (b (f λt az=>Y t (by simp[az]))) (b (g λt az=>Y t (by simp[az]))))
 |neg _ _ O=>exact λY=>one (.neg _ (b (O λt az=>Y t (by simp[az]))))
 |num _=>exact λ_=>one (.num _)
 |name _=>exact λ_=>one (.name _)
 |par _ _ _ O=>simp_all
 |call0 _ _ _=>exact λ_=>one (.call _ (λe bl=>by cases bl))
 |call _ _ _ _ O=>exact λY=>one (.call _ (O λt az=>Y t (by simp[az])))
 |arg1 _ O=>exact O
 |argM _ _ _ f g=>grind
 |key1 _ _ _ _ O=>exact λY=>one (.key1 _ (b (O λt az=>Y t (by simp[az]))))
 |key2 _ _ _ _ _ _ f g=>exact λY=>one (.key2 _ (b (f λt az=>Y t (by simp[az]))) (b (g λt az=>Y t (by simp[az]))))
 |key3 _ _ _ _ _ _ _ _ f g v=>exact λY=>one (.key3 _ (b (f λt az=>Y t (by simp[az]))) (b (g λt az=>Y t (by simp[az]))) (b (v λt az=>Y t (by simp[az]))))
 |keyN _ _ _ _ V _ O=>exact λY=>one (.keyN _ (b (O λt az=>Y t (by simp[az]))) (Y _ xac V))
 |put _ _ _ _ hi _ V _ O=>exact λY=>one (.put _ (b (O λt az=>Y t (by simp[az]))) (Y _ xac hi) (Y _ xac V))
 |grad _ _ _ _ _ _ O=>exact λY=>one (.grad _ _ (b (O λt az=>Y t (by simp[az]))))
 |jvp _ _ _ _ _ _ _ _ f g=>exact λY=>one (.jvp _ _ (b (f λt az=>Y t (by simp[az]))) (b (g λt az=>Y t (by simp[az]))))
def BOK(n:Nat):Bdg->Prop
 |.val _ v=>v<n
 |.fn _ _ e=>EOK e
def NmOK(st:LSt):Prop:=∀b∈st.names,BOK st.vs.length b
theorem BOK.le{m}(h:n<=m){b}(k:BOK n b):BOK m b:=by
 cases b with
 |val _ v=>exact yaj k h
 |fn _ _ _=>exact k
theorem NmOK.gw(h:NmOK a)(w:Gw a b):NmOK b:=λx ar=>(h x (iv w.m ar)).le w.n
def LcOK(loc:Loc)(n:Nat):Prop:=∀b∈loc,b.2<n
theorem LcOK.le{m}(k:LcOK loc n)(h:n<=m):LcOK loc m:=λb I=>yaj (k b I) h
theorem jP(aR:NmOK st){loc}(ab:LcOK loc st.vs.length){t v}(e:dX st loc t=.ok v):v<st.vs.length:=by
 unfold dX kj at e;cases bi:loc.find? (λb=>b.1==t.text) with
 |some b=>
  rw[bi]at e;simp only[Option.map_some]at e;cases e;exact ab b (List.mem_of_find?_eq_some bi)
 |none=>
  rw[bi]at e;simp only[Option.map_none]at e;unfold d8 at e;cases I:st.names.find? (λb=>b.nm==t.text) with
  |none=>grind
  |some b=>
   rw[I]at e;have:=aR b (List.mem_of_find?_eq_some I);cases b with
   |val _ v=>cases e;exact this
   |fn _ _ _=>cases e
theorem g8{r f}(z:∀q,r=some q->RsG st q)(J:∀s a,Gw st s->a<s.vs.length->∀q,f s a=some q->RsG s q):∀q,iE r f=some q->RsG st q:=λq e=>by
 unfold iE at e
 cases r with
 |none=>cases e
 |some x=>
  cases x with
  |error x=>grind
  |ok x=>
   obtain⟨s,a⟩:=x
   obtain⟨w,F⟩:=z _ rfl s a rfl
   exact RsG.back w (J s a w F q e)
theorem qf{ev g}:∀(es:List Ex) (st:LSt),Gw g st->(∀e∈es,∀s,Gw g s->∀q,ev s e=some q->RsG s q)->∀az G,eP ev st es=some (.ok (az,G))->Gw st az/\G.length=es.length/\∀x∈G,x<az.vs.length
 |[],st,i1,_,az,G,e=>by
  cases e
  exact⟨Gw.refl i1.g,rfl,λx ar=>by cases ar⟩
 |K::r,st,i1,m,az,G,e=>by
  unfold eP at e
  cases z:ev st K with
  |none=>grind
  |some q=>
   rw[z]at e
   cases q with
   |error f=>cases e
   |ok x=>
    obtain⟨ak,a⟩:=x
    obtain⟨w,F⟩:=m _ (List.mem_cons_self ..) _ i1 _ z _ a rfl
    simp only at e
    cases J:eP ev ak r with
    |none=>grind
    |some q=>
     rw[J]at e
     cases q with
     |error f=>cases e
     |ok x=>
      obtain⟨bF,ys⟩:=x
      simp only at e
      cases e
      obtain⟨af,ad,a5⟩:=qf r _ (i1.trans w) (λe bl=>m e (h5 _ bl)) _ _ J
      refine⟨w.trans af,by simp[ad],λx ar=>?_⟩
      obtain rfl|ar:=List.mem_cons.1 ar
      ·exact yaj F af.n
      grind
theorem gZ(h:RsG st r)(e:some r=some q):RsG st q:=by grind
theorem fE:∀(f:Nat) (st:LSt) (loc:Loc) (e:Ex),Gd st->NmOK st->LcOK loc st.vs.length->EOK e->∀r,dQ f st loc e=some r->RsG st r
 |0,_,_,_,_,_,_,_,r,h=>by cases h
 |f+1,st,loc,e,g,aR,ab,bl,r,h=>by
  have O:∀{e:Ex},EOK e->∀{s:LSt},Gw _ s->∀q,dQ f s _ e=some q->_:=λbl s w q an=>fE f s _ _ w.g (aR.gw w) (ab.le w.n) bl q an
  cases bl with
  |num t=>
   rw[dQ]at h
   exact gZ (iO g (g.v.p1 ⟨by decide,by decide⟩ zx)) h
  |name t=>
   grind[dQ,f8,zy,Gw.refl,jP]
  |neg o bl=>
   rw[dQ]at h
   exact g8 (O bl (Gw.refl g)) (λs a w F q an=>gZ (iO w.g (w.g.v.one (.inl rfl) (iP F))) an) r h
  |bin o F I=>
   rw[dQ]at h
   exact g8 (O F (Gw.refl g)) (λs a w F=>g8 (O I w) (λaz b Z I q an=>gZ (AI Z.g (yaj F Z.n) I) an)) r h
  |call t cS=>
   rename_i es
   rw[dQ]at h
   cases bi:d8 st.names t.text with
   |none=>rw[bi]at h;exact gZ f8 h
   |some b=>
    rw[bi]at h
    cases b with
    |val _ _=>exact gZ f8 h
    |fn bb ps body=>
     simp only at h
     by_cases c:ps.length=es.length
     ·rw[h3 c]at h
      cases F:eP (λs e=>dQ f s loc e) st es with
      |none=>grind
      |some q=>
       rw[F]at h
       cases q with
       |error q=>exact gZ f8 h
       |ok x=>
        obtain⟨ak,G⟩:=x
        obtain⟨w,Z,ao⟩:=qf _ _ (Gw.refl g) (λe bl s w q an=>O (cS e bl) w q an) _ _ F
        simp only at h
        by_cases d:500<=ak.calls
        ·rw[h3 d]at h;exact gZ f8 h
        ·rw[h2 d]at h
         have a7:Gw _ {ak with calls:=ak.calls+1}:=⟨⟨w.g.n,w.g.c,w.g.ok,w.g.k,w.g.i,w.g.o,w.g.m⟩,w.n,w.l,w.i,w.o,w.m⟩
         have I:EOK _:=aR _ (List.mem_of_find?_eq_some bi)
         exact RsG.back a7 (fE f _ _ _ a7.g (aR.gw a7) (λb I=>ao _ (List.of_mem_zip (show(b.1,b.2)∈_ from I)).2) I r h)
     ·rw[h2 c]at h;exact gZ f8 h
  |key1 k bl=>
   rw[dQ]at h
   refine g8 (O bl (Gw.refl g)) (λs a w F q an=>gZ ?_ an) r h
   by_cases c:k.sym=oA
   ·rw[h3 c];exact iO w.g (w.g.v.one (.inr rfl) (iP F))
   ·rw[h2 c];exact iO w.g (w.g.v.p9 (iP F))
  |key2 k F I=>
   rw[dQ]at h
   exact g8 (O F (Gw.refl g)) (λs a w F=>g8 (O I w) (λaz b Z I q an=>gZ (xV Z.g _ (yaj F Z.n) I) an)) r h
  |key3 k F I aj=>
   rw[dQ]at h
   exact g8 (O F (Gw.refl g)) (λs a w F=>g8 (O I w) (λaz b Z I=>g8 (O aj (w.trans Z)) (λbF c ao aj q an=>gZ (AJ ao.g (yaj F (yan Z.n ao.n)) (yaj I ao.n) aj) an))) r h
  |keyN k bl bo=>
   rw[dQ]at h
   exact g8 (O bl (Gw.refl g)) (λs a w F q an=>gZ (sL w.g F bo) an) r h
  |put k bl bo D=>
   rw[dQ]at h
   exact g8 (O bl (Gw.refl g)) (λs a w F q an=>gZ (sM w.g F bo) an) r h
  |grad k x bl=>
   rw[dQ]at h
   cases aD:dX st loc x with
   |error q=>rw[aD]at h;exact gZ f8 h
   |ok v=>
    rw[aD]at h
    have ar:=jP aR ab aD
    exact g8 (O bl (Gw.refl g)) (λs a w F q an=>gZ (xW w.g _ F (yaj ar w.n)) an) r h
  |jvp k x bl aT=>
   rw[dQ]at h
   cases aD:dX st loc x with
   |error q=>rw[aD]at h;exact gZ f8 h
   |ok v=>
    rw[aD]at h
    have ar:=jP aR ab aD
    exact g8 (O bl (Gw.refl g)) (λs a w F=>g8 (O aT w) (λaz b Z I q an=>gZ (AK Z.g _ (yaj F Z.n) (yaj ar (yan w.n Z.n)) I) an)) r h
def oI:List Tok->List Tok->Option Nat
 |_,[]=>none
 |seen,p::r=>if seen.any (λq=>q.text==p.text)=true then some p.pos else oI (seen++[p]) r
def kP(ns:List Bdg)(s:List UInt8):Nat:=ns.findIdx λb=>b.nm==s
def LSt.setV(st:LSt)(i:Nat)(s:List UInt8)(v:Nat):LSt:={st with names:=st.names.set i (.val s v)}
def kr(f:Nat)(e:Ex)(i:Nat)(s:List UInt8):Nat->LSt->Option (Rs LSt)
 |0,st=>some (.ok st)
 |k+1,st=>match dQ f st [] e with
  |none=>none
  |some (.error q)=>some (.error q)
  |some (.ok (st1,v))=>kr f e i s k (st1.setV i s v)
def mI(s:List UInt8)(r:Rs (LSt×Nat)):Rs LSt:=match r with
 |.error q=>.error q
 |.ok (st,v)=>.ok {st with names:=st.names++[.val s v]}
def EP(r:Rs (LSt×Nat)):Rs LSt:=match r with
 |.error q=>.error q
 |.ok (st,v)=>.ok {st with outs:=st.outs++[(v:Int)]}
def inR(st:LSt)(n l:Tok):Rs LSt:=
 if ek l.text<1\/1000<ek l.text then .error (4,l.pos)
 else if 20<=st.ins.length then .error (5,n.pos)
 else mI n.text (eg {st with ins:=st.ins++[ek l.text]} (dL 0 (ek l.text) (st.ins.length:Int) 0 0) n.pos)
def tR(st:LSt)(n:Tok)(ps:List Tok)(e:Ex):Rs LSt:=match oI [] ps with
 |some p=>.error (3,p)
 |none=>.ok {st with names:=st.names++[.fn n.text ps e]}
def lJ(st:LSt)(n:Tok)(r:Option (Rs LSt)):Option (Rs LSt):=match d8 st.names n.text with
 |some _=>some (.error (3,n.pos))
 |none=>r
def fF(f:Nat)(st:LSt):Sm->Option (Rs LSt)
 |.outS k e=>if 50<=st.outs.length then some (.error (5,k.pos))else (dQ f st [] e).map EP
 |.rep i n e=>match d8 st.names n.text with
  |some (.val _ _)=>if 100<ek i.text then some (.error (5,i.pos))else kr f e (kP st.names n.text) n.text (ek i.text).toNat st
  |_=>some (.error (3,n.pos))
 |.defS n ps e=>lJ st n (some (tR st n ps e))
 |.letS n e=>lJ st n ((dQ f st [] e).map (mI n.text))
 |.inS n l=>lJ st n (some (inR st n l))
def kM(f:Nat):LSt->List Sm->Option (Rs LSt)
 |st,[]=>some (.ok st)
 |st,s::ss=>match fF f st s with
  |none=>none
  |some (.error q)=>some (.error q)
  |some (.ok st1)=>kM f st1 ss
structure Tsk where
 e:Ex
 loc:Loc
 ent:Bool
def d7:Ex->List Ex
 |.num _=>[]
 |.name _=>[]
 |.neg _ e=>[e]
 |.bin _ a b=>[a,b]
 |.call _ es=>es
 |.key1 _ e=>[e]
 |.key2 k a b=>if k.sym=l8 then[a,b] else[.bin ⟨[42],k.pos,k.text⟩ a b]
 |.key3 _ a b c=>[a,b,c]
 |.keyN _ e _=>[e]
 |.put _ e _ _=>[e]
 |.grad _ e _=>[e]
 |.jvp _ e _ d=>[e,d]
def jT(st:LSt)(loc:Loc):Ex->Option xK
 |.grad _ _ x=>match dX st loc x with
  |.error q=>some q
  |.ok _=>none
 |.jvp _ _ x _=>match dX st loc x with
  |.error q=>some q
  |.ok _=>none
 |.call t es=>match d8 st.names t.text with
  |some (.fn _ ps _)=>if ps.length=es.length then none else some (3,t.pos)
  |_=>some (3,t.pos)
 |_=>none
def iQ(st:LSt)(loc:Loc)(e:Ex)(xs:List Nat):Rs (LSt×Nat):=
 match e with
 |.num t=>eg st ⟨1,1,0,0,0,me t.text⟩ t.pos
 |.name t=>match dX st loc t with|.error f=>.error f|.ok v=>.ok (st,v)
 |.neg o _=>eg st (dL 6 (dS st (xs.getD 0 0)) (xs.getD 0 0:Nat) 0 0) o.pos
 |.bin o _ _=>lz st o (xs.getD 0 0) (xs.getD 1 0)
 |.call _ _=>.error (0,0)
 |.key1 k _=>if k.sym=oA then eg st (dL 13 (dS st (xs.getD 0 0)) (xs.getD 0 0:Nat) 0 0) k.pos else eg st (dL 9 1 (xs.getD 0 0:Nat) 0 0) k.pos
 |.key2 k _ _=>if k.sym=l8 then kS st k (xs.getD 0 0) (xs.getD 1 0)else eg st (dL 9 1 (xs.getD 0 0:Nat) 0 0) k.pos
 |.key3 k _ _ _=>po st k (xs.getD 0 0) (xs.getD 1 0) (xs.getD 2 0)
 |.keyN k _ n=>ju st k (xs.getD 0 0) n
 |.put k _ i n=>jK st k (xs.getD 0 0) i n
 |.grad k _ x=>match dX st loc x with
  |.error q=>.error q
  |.ok v=>mg st k (xs.getD 0 0) v
 |.jvp k _ x _=>match dX st loc x with
  |.error q=>.error q
  |.ok v=>lX st k (xs.getD 0 0) v (xs.getD 1 0)
structure Cnf where
 st:LSt
 ks:List Tsk
 xs:List Nat
def py(st:LSt)(t:Tok)(es:List Ex)(S:List Tsk)(X ys:List Nat):Rs Cnf:=
 if 500<=st.calls then .error (5,t.pos) else
 match d8 st.names t.text with
 |some (.fn _ ps body)=>if ps.length=es.length then .ok ⟨{st with calls:=st.calls+1},⟨body,(ps.map (·.text)).zip ys,false⟩::S,X⟩else .error (3,t.pos)
 |_=>.error (3,t.pos)
def Ca(r:Rs (LSt×Nat))(S:List Tsk)(X:List Nat):Rs Cnf:=match r with
 |.error q=>.error q
 |.ok (st,a)=>.ok ⟨st,S,X++[a]⟩
def jE(st:LSt)(t:Tsk)(S:List Tsk)(xs:List Nat):Rs Cnf:=
 match t.e with
 |.call tk es=>py st tk es S (xs.take (xs.length-es.length)) (xs.drop (xs.length-es.length))
 |e=>Ca (iQ st t.loc e (xs.drop (xs.length-(d7 e).length))) S (xs.take (xs.length-(d7 e).length))
def kQ(st:LSt)(t:Tsk)(S:List Tsk)(xs:List Nat):Rs Cnf:=
 match jT st t.loc t.e with
 |some q=>.error q
 |none=>.ok ⟨st,(d7 t.e).map (λe=>⟨e,t.loc,false⟩)++⟨t.e,t.loc,true⟩::S,xs⟩
def jw:Nat->LSt->List Tsk->List Nat->Option (Rs (LSt×List Nat))
 |_,st,[],xs=>some (.ok (st,xs))
 |0,_,_::_,_=>none
 |n+1,st,t::S,xs=>
  if t.ent=true then
   if xs.length<(d7 t.e).length then none else
   match jE st t S xs with
   |.error q=>some (.error q)
   |.ok c=>jw n c.st c.ks c.xs
  else match kQ st t S xs with
   |.error q=>some (.error q)
   |.ok c=>jw n c.st c.ks c.xs
def pz(st:LSt)(ts:List Tsk)(r:Rs (LSt×List Nat)):Prop:=
 (∀q,r=.error q->∀S X,∃n,jw n st (ts++S) X=some (.error q))/\
 (∀s1 ys,r=.ok (s1,ys)->∀S X N R,jw N s1 S (X++ys)=some R->∃n,jw n st (ts++S) X=some R)
def qP(r:Rs (LSt×Nat)):Rs (LSt×List Nat):=match r with
 |.error q=>.error q
 |.ok (s,a)=>.ok (s,[a])
abbrev mkT(loc:Loc)(e:Ex):Tsk:=⟨e,loc,false⟩
theorem uw{ev loc g}:∀(es:List Ex) (st:LSt),Gw g st->(∀e∈es,∀s,Gw g s->∀q,ev s e=some q->RsG s q/\pz s [mkT loc e] (qP q))->∀r,eP ev st es=some r->pz st (es.map (mkT loc)) r
 |[],st,i1,_,r,h=>by
  cases h
  refine⟨λq e=>(by cases e),λak ys e S X N R au=>?_⟩
  grind
 |K::es,st,i1,m,r,h=>by
  rw[eP]at h
  cases z:ev st K with
  |none=>grind
  |some bg=>
   rw[z]at h
   obtain⟨bz,a1⟩:=m _ (List.mem_cons_self ..) _ i1 _ z
   obtain bg|⟨ak,bB⟩:=bg
   ·cases h
    refine⟨λq e S X=>?_,λak ys e=>by cases e⟩
    cases e
    obtain⟨n,V⟩:=a1.1 _ rfl (es.map (mkT loc)++S) X
    grind
   ·simp only at h
    obtain⟨w,ar⟩:=bz _ _ rfl
    cases J:eP ev ak es with
    |none=>grind
    |some bp=>
     rw[J]at h
     have O:=uw _ _ (i1.trans w) (λe bl=>m e (h5 _ bl)) _ J
     obtain a8|⟨az,ys⟩:=bp
     ·cases h
      refine⟨λq e S X=>?_,λak ys e=>by cases e⟩
      cases e
      obtain⟨N,bb⟩:=O.1 _ rfl S (X++[bB])
      obtain⟨n,V⟩:=a1.2 _ _ rfl _ X N _ bb
      grind
     ·cases h
      refine⟨λq e=>(by cases e),λbF zs e S X N R au=>?_⟩
      cases e
      obtain⟨a,G⟩:=O.2 _ _ rfl S (X++[bB]) N R (by grind)
      obtain⟨n,V⟩:=a1.2 _ _ rfl _ X _ _ G
      grind
def oJ:Ex->Bool
 |.call _ _=>true
 |_=>false
theorem qg{X}(aj:oJ e=false)(ab:ys.length=(d7 e).length):jE st ⟨e,loc,b⟩ S (X++ys)=Ca (iQ st loc e ys) S X:=by
 have K:(X++ys).length-(d7 e).length=X.length:=by grind
 have:jE st ⟨e,loc,b⟩ S (X++ys)=Ca (iQ st loc e ((X++ys).drop ((X++ys).length-(d7 e).length))) S ((X++ys).take ((X++ys).length-(d7 e).length)):=by
  cases e<;>first|rfl|cases aj
 simp_all
theorem ml{r1}(aC:jT st loc e=none)(aj:oJ e=false)(H:pz st ((d7 e).map (mkT loc)) r1):
  (∀q,r1=.error q->pz st [mkT loc e] (.error q))/\(∀ak ys,r1=.ok (ak,ys)->ys.length=(d7 e).length->pz st [mkT loc e] (qP (iQ ak loc e ys))):=by
 have one:∀S X n R,jw n st ((d7 e).map (mkT loc)++⟨e,loc,true⟩::S) X=some R->jw (n+1) st ([mkT loc e]++S) X=some R:=λS X n R h=>by
  show jw (n+1) st (⟨e,loc,false⟩::S) X=some R
  rw[jw,h2 xac,kQ]
  simp only[aC]
  exact h
 refine⟨λq an=>⟨λai e S X=>?_,λak ys e=>by cases e⟩,λak ys ah ab=>?_⟩
 ·cases e;obtain⟨n,V⟩:=H.1 q an (⟨_,loc,true⟩::S) X;exact⟨n+1,one S X n _ V⟩
 have two:∀S X N R,(match Ca (iQ ak loc e ys) S X with|.error q=>some (.error q)|.ok c=>jw N c.st c.ks c.xs)=some R->∃n,jw n st ([mkT loc e]++S) X=some R:=λS X N R h=>by
  have:jw (N+1) ak (⟨e,loc,true⟩::S) (X++ys)=some R:=by
   rw[jw,h3 rfl,h2 (by rw[yak,ab];show ¬_<(d7 e).length;omega),qg aj ab]
   exact h
  obtain⟨n,V⟩:=H.2 ak ys ah (⟨e,loc,true⟩::S) X _ _ this
  exact⟨n+1,one S X n _ V⟩
 cases aD:iQ ak loc e ys with
 |error q=>
  refine⟨λai m S X=>?_,λak ys e=>by cases e⟩;cases m;exact two S X 0 _ (i0 aD)
 |ok x=>
  obtain⟨az,a⟩:=x;refine⟨λq e=>(by cases e),λbF zs m S X N R au=>?_⟩;cases m;exact two S X N R (it aD au)
theorem mn(h:jT st loc e=some q):pz st [mkT loc e] (.error q):=by
 refine⟨λai m S X=>⟨1,?_⟩,λak ys e=>by cases e⟩;grind[jw,kQ]
section
variable{ev:LSt->Ex->Option (Rs (LSt×Nat))}{st:LSt}{r:Rs (LSt×Nat)}{a b c:Ex}
theorem Cb{g:LSt->Nat->Rs (LSt×Nat)}(h:iE (ev st a) (λs x=>some (g s x))=some r):∃r1,eP ev st [a]=some r1/\((∃q,r1=.error q/\r=.error q)\/∃s x,r1=.ok (s,[x])/\r=g s x):=by
 cases z:ev st a with
 |none=>rw[z]at h;cases h
 |some q=>
  rw[z]at h;obtain q|⟨s,x⟩:=q
  ·cases h<;>grind[eP]
  cases h<;>grind[eP]
theorem IU{g:LSt->Nat->Nat->Rs (LSt×Nat)}(h:iE (ev st a) (λs x=>iE (ev s b) λaz y=>some (g az x y))=some r):∃r1,eP ev st [a,b]=some r1/\((∃q,r1=.error q/\r=.error q)\/∃s x y,r1=.ok (s,[x,y])/\r=g s x y):=by
 cases z:ev st a with
 |none=>rw[z]at h;cases h
 |some q=>
  rw[z]at h;obtain q|⟨s,x⟩:=q
  ·cases h<;>grind[eP]
  obtain⟨r1,K,J⟩:=Cb h;grind[eP]
theorem P0{g:LSt->Nat->Nat->Nat->Rs (LSt×Nat)}(h:iE (ev st a) (λs x=>iE (ev s b) λaz y=>iE (ev az c) λbF aX=>some (g bF x y aX))=some r):∃r1,eP ev st [a,b,c]=some r1/\((∃q,r1=.error q/\r=.error q)\/∃s x y aX,r1=.ok (s,[x,y,aX])/\r=g s x y aX):=by
 cases z:ev st a with
 |none=>rw[z]at h;cases h
 |some q=>
  rw[z]at h;obtain q|⟨s,x⟩:=q
  ·cases h<;>grind[eP]
  obtain⟨r1,K,J⟩:=IU h;grind[eP]
end
theorem IV{x y}(h:¬k.sym=l8):kS st k x y=match lz st ⟨[42],k.pos,k.text⟩ x y with|.error q=>.error q|.ok (bF,p)=>eg bF (dL 9 1 (p:Int) 0 0) k.pos:=by
 unfold kS lz;cases im st [x,y] k.pos with
 |error q=>rfl
 |ok aX=>
  obtain⟨az,f⟩:=aX;simp only[h2 h];rfl
theorem EOK.kids(h:EOK e):∀k∈d7 e,EOK k:=by
 cases h with
 |num t=>intro k H;cases H
 |name t=>intro k H;cases H
 |neg o bl=>grind[d7]
 |bin o F I=>grind[d7]
 |call t ai=>exact ai
 |key1 o bl=>grind[d7]
 |key2 o F I=>
  intro k H;simp only[d7]at H;split at H
  ·grind
  simp at H;rw[H];exact .bin _ F I
 |key3 o F I aj=>grind[d7]
 |keyN o bl _=>grind[d7]
 |put o bl _ _=>grind[d7]
 |grad o x bl=>grind[d7]
 |jvp o x F I=>grind[d7]
theorem mC(h:b.names=a.names)(loc:Loc)(t):dX b loc t=dX a loc t:=by unfold dX;rw[h]
theorem qh:∀(f:Nat) (st:LSt) (loc:Loc) (e:Ex),Gd st->NmOK st->LcOK loc st.vs.length->EOK e->∀r,dQ f st loc e=some r->pz st [mkT loc e] (qP r)
 |0,_,_,_,_,_,_,_,r,h=>by cases h
 |f+1,st,loc,e,g,aR,ab,bl,r,h=>by
  have O:∀{e:Ex},EOK e->∀s,Gw st s->∀q,dQ f s loc e=some q->RsG s q/\pz s [mkT loc e] (qP q):=λbl s w q an=>⟨fE f s loc _ w.g (aR.gw w) (ab.le w.n) bl q an,qh f s loc _ w.g (aR.gw w) (ab.le w.n) bl q an⟩
  have aN:∀es,(∀e∈es,EOK e)->∀r1,eP (λs e=>dQ f s loc e) st es=some r1->_:=λes cS r1 ah=>uw es st (Gw.refl g) (λe bl s w q an=>O (cS e bl) s w q an) r1 ah
  have aT:∀es,(∀e∈es,EOK e)->∀az G,eP (λs e=>dQ f s loc e) st es=some (.ok (az,G))->_:=λes cS az G ah=>qf es st (Gw.refl g) (λe bl s w q an=>(O (cS e bl) s w q an).1) az G ah
  have j:oJ e=false->jT st loc e=none->∀r1,eP (λs e=>dQ f s loc e) st (d7 e)=some r1->((∃q,r1=.error q/\r=.error q)\/∃s ys,r1=.ok (s,ys)/\(s.names=st.names->r=iQ s loc e ys))->pz st [mkT loc e] (qP r):=λaj aC r1 ah ar=>by
   have k:=ml aC aj (aN (d7 e) bl.kids r1 ah)
   obtain⟨q,rfl,rfl⟩|⟨s,ys,rfl,aD⟩:=ar
   ·exact k.1 q rfl
   ·obtain⟨w,V,_⟩:=aT (d7 e) bl.kids s ys ah
    rw[aD w.m]
    exact k.2 s ys rfl V
  cases e with
  |num t=>
   rw[dQ]at h
   exact j rfl rfl _ rfl (.inr ⟨st,[],rfl,λ_=>(h4 h).symm⟩)
  |name t=>
   rw[dQ]at h
   exact j rfl rfl _ rfl (.inr ⟨st,[],rfl,λ_=>(h4 h).symm⟩)
  |neg o a=>
   rw[dQ]at h
   obtain⟨r1,z,J⟩:=Cb (ev:=λs e=>dQ f s loc e) h
   exact j rfl rfl r1 z (J.imp id λ⟨s,x,K,a6⟩=>⟨s,[x],K,λ_=>a6⟩)
  |bin o a b=>
   rw[dQ]at h
   obtain⟨r1,z,J⟩:=IU (ev:=λs e=>dQ f s loc e) h
   exact j rfl rfl r1 z (J.imp id λ⟨s,x,y,K,a6⟩=>⟨s,[x,y],K,λ_=>a6⟩)
  |key1 k a=>
   rw[dQ]at h
   obtain⟨r1,z,J⟩:=Cb (ev:=λs e=>dQ f s loc e) h
   exact j rfl rfl r1 z (J.imp id λ⟨s,x,K,a6⟩=>⟨s,[x],K,λ_=>a6⟩)
  |key2 k a b=>
   rw[dQ]at h
   obtain⟨r1,z,J⟩:=IU (ev:=λs e=>dQ f s loc e) h
   by_cases c:k.sym=l8
   ·refine j rfl rfl r1 (by simp only[d7,h3 c];exact z) (J.imp id λ⟨s,x,y,K,a6⟩=>⟨s,[x,y],K,λ_=>?_⟩)
    simp only[iQ,h3 c]
    exact a6
   ·have aG:∀e∈[a,b],EOK e:=by
     cases bl with
     |key2 _ F I=>intro e bl;simp at bl;obtain rfl|rfl:=bl<;>assumption
    have aq:=ml (e:=.bin ⟨[42],k.pos,k.text⟩ a b) (st:=st) (loc:=loc) rfl rfl (aN [a,b] aG r1 z)
    have B:d7 (.key2 k a b)=[.bin ⟨[42],k.pos,k.text⟩ a b]:=by simp only[d7,h2 c]
    obtain⟨q,rfl,rfl⟩|⟨s,x,y,rfl,rfl⟩:=J
    ·exact(ml (e:=.key2 k a b) (r1:=.error q) rfl rfl (by rw[B];exact aq.1 q rfl)).1 q rfl
    ·have aI:=aq.2 s [x,y] rfl rfl
     have ag:iQ s loc (.bin ⟨[42],k.pos,k.text⟩ a b) [x,y]=lz s ⟨[42],k.pos,k.text⟩ x y:=rfl;rw[ag]at aI;rw[IV c];cases I:lz s ⟨[42],k.pos,k.text⟩ x y with
     |error q=>
      rw[I]at aI;exact(ml (e:=.key2 k a b) (r1:=.error q) rfl rfl (it B aI)).1 q rfl
     |ok aX=>
      obtain⟨bF,p⟩:=aX
      rw[I]at aI
      have:=(ml (e:=.key2 k a b) (r1:=.ok (bF,[p])) rfl rfl (it B aI)).2 bF [p] rfl (i0 B)
      have b2:iQ bF loc (.key2 k a b) [p]=eg bF (dL 9 1 (p:Int) 0 0) k.pos:=by simp only[iQ,h2 c];rfl
      rw[b2]at this
      exact this
  |key3 k a b c=>
   rw[dQ]at h
   obtain⟨r1,z,J⟩:=P0 (ev:=λs e=>dQ f s loc e) h
   exact j rfl rfl r1 z (J.imp id λ⟨s,x,y,aX,K,a6⟩=>⟨s,[x,y,aX],K,λ_=>a6⟩)
  |keyN k a n=>
   rw[dQ]at h
   obtain⟨r1,z,J⟩:=Cb (ev:=λs e=>dQ f s loc e) h
   exact j rfl rfl r1 z (J.imp id λ⟨s,x,K,a6⟩=>⟨s,[x],K,λ_=>a6⟩)
  |put k a i n=>
   rw[dQ]at h
   obtain⟨r1,z,J⟩:=Cb (ev:=λs e=>dQ f s loc e) h
   exact j rfl rfl r1 z (J.imp id λ⟨s,x,K,a6⟩=>⟨s,[x],K,λ_=>a6⟩)
  |grad k a x=>
   rw[dQ]at h
   cases aD:dX st loc x with
   |error q=>
    rw[aD]at h
    cases h
    exact mn (by simp only[jT,aD])
   |ok v=>
    rw[aD]at h
    obtain⟨r1,z,J⟩:=Cb (ev:=λs e=>dQ f s loc e) h
    refine j rfl (by simp only[jT,aD]) r1 z (J.imp id λ⟨s,x,K,a6⟩=>⟨s,[x],K,λV=>?_⟩)
    simp only[iQ,mC V,aD]
    exact a6
  |jvp k a x d=>
   rw[dQ]at h
   cases aD:dX st loc x with
   |error q=>
    rw[aD]at h
    cases h
    exact mn (by simp only[jT,aD])
   |ok v=>
    rw[aD]at h
    obtain⟨r1,z,J⟩:=IU (ev:=λs e=>dQ f s loc e) (g:=λs x y=>lX s k x v y) h
    refine j rfl (by simp only[jT,aD]) r1 z (J.imp id λ⟨s,x,y,K,a6⟩=>⟨s,[x,y],K,λV=>?_⟩)
    simp only[iQ,mC V,aD]
    exact a6
  |call t es=>
   rw[dQ]at h
   cases bi:d8 st.names t.text with
   |none=>rw[bi]at h;cases h;exact mn (by simp only[jT,bi])
   |some b=>
    rw[bi]at h
    cases b with
    |val bb v=>cases h;exact mn (by simp only[jT,bi])
    |fn bb ps body=>
     simp only at h;by_cases c:ps.length=es.length
     ·rw[h3 c]at h;have aC:jT st loc (.call t es)=none:=by simp only[jT,bi,h3 c]
      have H:∀k∈es,EOK k:=bl.kids
      have one:∀S X n R,jw n st (es.map (mkT loc)++⟨.call t es,loc,true⟩::S) X=some R->jw (n+1) st ([mkT loc (.call t es)]++S) X=some R:=λS X n R h=>by
       show jw (n+1) st (⟨.call t es,loc,false⟩::S) X=some R
       rw[jw,h2 xac,kQ]
       simp only[aC]
       exact h
      cases F:eP (λs e=>dQ f s loc e) st es with
      |none=>rw[F]at h;cases h
      |some r1=>
       rw[F]at h;have af:=aN es H r1 F;obtain q|⟨ak,ys⟩:=r1
       ·cases h;refine⟨λai m S X=>?_,λak ys e=>by cases e⟩;cases m;obtain⟨n,V⟩:=af.1 q rfl (⟨.call t es,loc,true⟩::S) X;exact⟨n+1,one S X n _ V⟩
       obtain⟨w,Z,ao⟩:=aT es H ak ys F;simp only at h
       have l:∀S X N R,(match py ak t es S X ys with|.error q=>some (.error q)|.ok c=>jw N c.st c.ks c.xs)=some R->∃n,jw n st ([mkT loc (.call t es)]++S) X=some R:=λS X N R h=>by
        have K:(X++ys).length-es.length=X.length:=by rw[yak,Z];omega
        have:jw (N+1) ak (⟨.call t es,loc,true⟩::S) (X++ys)=some R:=by
         rw[jw,h3 rfl,h2 (by rw[yak,Z];show ¬_<es.length;omega)]
         unfold jE
         simp only[K,List.drop_left,List.take_left]
         exact h
        obtain⟨n,V⟩:=af.2 ak ys rfl (⟨.call t es,loc,true⟩::S) X _ _ this
        exact⟨n+1,one S X n _ V⟩
       by_cases d:500<=ak.calls
       ·rw[h3 d]at h;cases h;refine⟨λai m S X=>?_,λak ys e=>by cases e⟩;cases m;exact l S X 0 _ (by unfold py;rw[h3 d])
       rw[h2 d]at h;have a7:Gw st {ak with calls:=ak.calls+1}:=⟨⟨w.g.n,w.g.c,w.g.ok,w.g.k,w.g.i,w.g.o,w.g.m⟩,w.n,w.l,w.i,w.o,w.m⟩
       have I:EOK body:=aR _ (List.mem_of_find?_eq_some bi);have u:=qh f _ _ body a7.g (aR.gw a7) (λb I=>ao b.2 (List.of_mem_zip (show(b.1,b.2)∈_ from I)).2) I r h
       have C:∀S X,py ak t es S X ys=.ok ⟨{ak with calls:=ak.calls+1},⟨body,(ps.map (·.text)).zip ys,false⟩::S,X⟩:=λS X=>by
        unfold py
        rw[h2 d,w.m,bi]
        simp only[h3 c]
       refine⟨λai m S X=>?_,λaz zs m S X N R au=>?_⟩
       ·obtain⟨n,V⟩:=u.1 ai m S X;exact l S X n _ (it C V)
       obtain⟨n,V⟩:=u.2 az zs m S X N R au;exact l S X n _ (it C V)
     rw[h2 c]at h;cases h;exact mn (by simp only[jT,bi,h2 c])
theorem mD{f}(g:Gd st)(aR:NmOK st)(bl:EOK e)(h:dQ f st [] e=some r):∃n,jw n st [mkT [] e] []=some (qP r):=by
 have k:=qh f _ _ e g aR (λb I=>by cases I) bl r h;obtain q|⟨s,a⟩:=r
 ·obtain⟨n,V⟩:=k.1 q rfl [] [];exact⟨n,V⟩
 obtain⟨n,V⟩:=k.2 s _ rfl [] [] 0 (.ok (s,[a])) rfl;exact⟨n,V⟩
mutual
def szE:Ex->Nat
 |.num _=>1
 |.name _=>1
 |.neg _ e=>1+szE e
 |.bin _ a b=>1+szE a+szE b
 |.call _ es=>1+szL es
 |.key1 _ e=>1+szE e
 |.key2 _ a b=>2+szE a+szE b
 |.key3 _ a b c=>1+szE a+szE b+szE c
 |.keyN _ e _=>1+szE e
 |.put _ e _ _=>1+szE e
 |.grad _ e _=>1+szE e
 |.jvp _ e _ d=>1+szE e+szE d
def szL:List Ex->Nat
 |[]=>0
 |e::r=>szE e+szL r
end
theorem IW(a b):szL (a++b)=szL a+szL b:=by
 induction a<;>simp_all[szL]<;>grind
theorem vR(e):1+szL (d7 e)<=szE e:=by
 cases e<;>grind[d7,szL,szE]
theorem EQ(e):1<=szE e:=ih (vR e)
theorem OV(h:Pr n es ts):szL es<=2*ts.length:=by
 induction h<;>grind[IW,szL,szE]
mutual
def tkE:Ex->List Tok
 |.num t=>[t]
 |.name t=>[t]
 |.neg o e=>o::tkE e
 |.bin o a b=>o::(tkE a++tkE b)
 |.call t es=>t::tkL es
 |.key1 k e=>k::tkE e
 |.key2 k a b=>k::(tkE a++tkE b)
 |.key3 k a b c=>k::(tkE a++(tkE b++tkE c))
 |.keyN k e n=>k::n::tkE e
 |.put k e i n=>k::i::n::tkE e
 |.grad k e x=>k::x::tkE e
 |.jvp k e x d=>k::x::(tkE e++tkE d)
def tkL:List Ex->List Tok
 |[]=>[]
 |e::r=>tkE e++tkL r
end
mutual
def nmE:Ex->List Tok
 |.num t=>[t]
 |.name _=>[]
 |.neg _ e=>nmE e
 |.bin _ a b=>nmE a++nmE b
 |.call _ es=>nmL es
 |.key1 _ e=>nmE e
 |.key2 _ a b=>nmE a++nmE b
 |.key3 _ a b c=>nmE a++(nmE b++nmE c)
 |.keyN _ e _=>nmE e
 |.put _ e _ _=>nmE e
 |.grad _ e _=>nmE e
 |.jvp _ e _ d=>nmE e++nmE d
def nmL:List Ex->List Tok
 |[]=>[]
 |e::r=>nmE e++nmL r
end
theorem IX(a b):nmL (a++b)=nmL a++nmL b:=by
 induction a<;>simp_all[nmL]
theorem AL(bl:e∈es)(H:k∈nmE e):k∈nmL es:=by
 induction es<;>simp_all[nmL]<;>grind
structure ENk(e:Ex):Prop where
 t:∀k∈tkE e,k.sym≠[]/\k.text≠[]
 n:∀k∈nmE e,iu k.text
theorem AM(a b):tkL (a++b)=tkL a++tkL b:=by
 induction a<;>simp_all[tkL]
theorem rg(bl:e∈es)(H:k∈tkE e):k∈tkL es:=by
 induction es<;>simp_all[tkL]<;>grind
theorem IY(h:∀k∈tkE e,k.sym≠[]/\k.text≠[]):∀x∈d7 e,∀k∈tkE x,k.sym≠[]/\k.text≠[]:=by
 intro x ar k H;cases e with
 |num t=>cases ar
 |name t=>cases ar
 |call t es=>exact h k (h5 _ (rg ar H))
 |key2 o a b=>
  simp only[d7]at ar;split at ar
  ·simp only[List.mem_cons,List.not_mem_nil,or_false]at ar;obtain rfl|rfl:=ar<;>exact h k (by simp[tkE,H])
  simp only[List.mem_cons,List.not_mem_nil,or_false]at ar;subst ar;simp only[tkE,List.mem_cons,List.mem_append]at H;obtain rfl|H|H:=H
  ·exact⟨by show[42]≠[];decide,(h o (by simp[tkE])).2⟩
  ·exact h k (by simp[tkE,H])
  exact h k (by simp[tkE,H])
 |_=>
  simp only[d7,List.mem_cons,List.not_mem_nil,or_false]at ar
  first
   |(subst ar;exact h k (by simp[tkE,H]))
   |(obtain rfl|rfl:=ar<;>exact h k (by simp[tkE,H]))
   |(obtain rfl|rfl|rfl:=ar<;>exact h k (by simp[tkE,H]))
theorem I0:∀x∈d7 e,∀k∈nmE x,k∈nmE e:=by
 intro x ar k H;cases e with
 |num t=>cases ar
 |name t=>cases ar
 |call t es=>exact AL ar H
 |key2 o a b=>
  simp only[d7]at ar;split at ar
  ·simp only[List.mem_cons,List.not_mem_nil,or_false]at ar;obtain rfl|rfl:=ar<;>simp[nmE,H]
  simp only[List.mem_cons,List.not_mem_nil,or_false]at ar;subst ar;exact H
 |_=>
  simp only[d7,List.mem_cons,List.not_mem_nil,or_false]at ar
  first
   |(subst ar;simp[nmE,H])
   |(obtain rfl|rfl:=ar<;>simp[nmE,H])
   |(obtain rfl|rfl|rfl:=ar<;>simp[nmE,H])
theorem ENk.kids(h:ENk e):∀x∈d7 e,ENk x:=λx ar=>⟨IY h.t x ar,λk H=>h.n k (I0 x ar k H)⟩
theorem KT(h:Pr n es ts):∀k∈tkL es,k.sym≠[]:=by
 have aW:fx≠[]/\iS≠[]/\eu≠[]:=xab;have bA:oA≠[]/\vx≠[]/\l8≠[]/\xD≠[]/\qO≠[]/\mU≠[]/\lO≠[]/\vy≠[]/\sb≠[]/\zh≠[]:=xab;induction h<;>simp_all[AM,tkL,tkE]<;>grind
theorem MF(h:Pr n es ts):∀k∈tkL es,k∈ts:=by
 induction h<;>simp_all[tkL,tkE,AM]<;>grind
theorem OW(h:Pr n es ts):(∀t∈ts,t.sym=fx\/t.sym=iS->iu t.text)->∀k∈nmL es,iu k.text:=by
 induction h<;>simp_all[nmL,nmE,IX]<;>grind
theorem MG(h:Pr n es ts)(Y:∀t∈ts,t.sym≠[]->t.text≠[])(aT:∀t∈ts,t.sym=fx\/t.sym=iS->iu t.text):∀e∈es,ENk e:=λ_ bl=>⟨λk H=>⟨KT h k (rg bl H),Y k (MF h k (rg bl H)) (KT h k (rg bl H))⟩,λk H=>OW h aT k (AL bl H)⟩
def wtK(t:Tsk):Nat:=if t.ent=true then 1 else szE t.e
def wtS:List Tsk->Nat
 |[]=>0
 |t::r=>wtK t+wtS r
theorem I1(a b):wtS (a++b)=wtS a+wtS b:=by
 induction a<;>simp_all[wtS]<;>grind
theorem vS:∀(O:List Tsk),O.length<=wtS O
 |[]=>yac
 |t::r=>by
  have:=vS r
  grind[wtK,EQ,wtS]
theorem AN(loc):∀(es:List Ex),wtS (es.map (mkT loc))=szL es
 |[]=>rfl
 |e::r=>by rw[List.map_cons,wtS,szL,AN _ r];rfl
def NmS(ns:List Bdg):Prop:=∀nm ps body,Bdg.fn nm ps body∈ns->szE body<=10000
structure CnG(st:LSt)(ks:List Tsk)(xs:List Nat):Prop where
 g:Gd st
 m:NmOK st
 s:NmS st.names
 c:st.calls<=500
 k:∀t∈ks,EOK t.e/\LcOK t.loc st.vs.length
 x:∀y∈xs,y<st.vs.length
 w:xs.length+wtS ks<=10000*(st.calls+1)
theorem CnG.lenK{O}(h:CnG st O G):O.length<=5010000/\G.length<=5010000:=by
 have:=vS O;have:=h.w;have:=h.c;omega
theorem gI{G:List Nat}{i}(h:∀y∈G,y<n)(hi:i<G.length):G.getD i 0<n:=by
 simp_all
theorem ER(g:Gd st)(aR:NmOK st)(ab:LcOK loc st.vs.length)(bl:EOK e)(aY:∀y∈ys,y<st.vs.length)(V:ys.length=(d7 e).length):RsG st (iQ st loc e ys):=by
 cases bl with
 |num t=>exact iO g (g.v.p1 ⟨by decide,by decide⟩ zx)
 |name t=>
  grind[iQ,f8,zy,Gw.refl,jP]
 |neg o _=>exact iO g (g.v.one (.inl rfl) (iP (gI aY (by rw[V];exact Nat.le_of_ble_eq_true rfl))))
 |bin o _ _=>exact AI g (gI aY (by rw[V];exact Nat.le_of_ble_eq_true rfl)) (gI aY (by rw[V];exact Nat.le_of_ble_eq_true rfl))
 |call t _=>exact f8
 |key1 k _=>
  have F:=gI (i:=0) aY (by rw[V];exact Nat.le_of_ble_eq_true rfl);simp only[iQ];by_cases c:k.sym=oA
  ·rw[h3 c];exact iO g (g.v.one (.inr rfl) (iP F))
  rw[h2 c];exact iO g (g.v.p9 (iP F))
 |key2 k _ _=>
  simp only[iQ];simp only[d7]at V;by_cases c:k.sym=l8
  ·grind[xV]
  rw[h2 c]at V;rw[h2 c];exact iO g (g.v.p9 (iP (gI aY (by grind))))
 |key3 k _ _ _=>exact AJ g (gI aY (by rw[V];exact Nat.le_of_ble_eq_true rfl)) (gI aY (by rw[V];exact Nat.le_of_ble_eq_true rfl)) (gI aY (by rw[V];exact Nat.le_of_ble_eq_true rfl))
 |keyN k _ bo=>exact sL g (gI aY (by rw[V];exact Nat.le_of_ble_eq_true rfl)) bo
 |put k _ bo D=>exact sM g (gI aY (by rw[V];exact Nat.le_of_ble_eq_true rfl)) bo
 |grad k x _=>
  grind[iQ,f8,xW,jP]
 |jvp k x _ _=>
  grind[iQ,f8,AK,jP]
def VsO(st:LSt)(r:Rs (LSt×Nat)):Prop:=∀s x,r=.ok (s,x)->s={st with vs:=s.vs}
theorem VsO.err:VsO st (.error q):=λs x h=>by cases h
theorem VsO.back{r}(h:b={a with vs:=b.vs})(k:VsO b r):VsO a r:=λs x e=>by
 have:=k s x e
 grind
theorem ku(st v p):VsO st (eg st v p):=λs x h=>by
 grind[eg]
theorem vT(n p):∀(G:List Nat) (st s:LSt) (ys:List Nat),gE n p st G=.ok (s,ys)->s={st with vs:=s.vs}
 |[],st,s,ys,h=>by cases h;rfl
 |i::r,st,s,ys,h=>by
  by_cases c:dS st i<n
  ·cases aB:eg st (dL 10 n (i:Int) 0 0) p with
   |error q=>rw[kG c aB]at h;cases h
   |ok aX=>
    obtain⟨ak,j⟩:=aX
    rw[kE c aB]at h
    cases bi:gE n p ak r with
    |error q=>rw[bi]at h;cases h
    |ok aX=>
     obtain⟨az,js⟩:=aX
     rw[bi]at h
     cases h
     have z:=ku _ _ p _ j aB
     have J:=vT n p r _ _ _ bi
     grind
  ·rw[j5 c]at h
   cases bi:gE n p st r with
   |error q=>rw[bi]at h;cases h
   |ok aX=>
    obtain⟨az,js⟩:=aX
    rw[bi]at h
    cases h
    exact vT n p r _ _ _ bi
theorem vU{s p}(h:im st G p=.ok (s,ys)):s={st with vs:=s.vs}:=by
 grind[im,vT]
theorem qj(st m p):VsO st (ft st m p):=λs x h=>by
 grind[ft]
theorem MH{o}:VsO st (lz st o a b):=by
 unfold lz;cases bi:im st [a,b] o.pos with
 |error q=>exact VsO.err
 |ok y=>exact VsO.back (vU bi) (ku _ _ _)
theorem I2(st k a b):VsO st (kS st k a b):=by
 unfold kS;cases bi:im st [a,b] k.pos with
 |error q=>exact VsO.err
 |ok y=>
  obtain⟨az,f⟩:=y;simp only;split
  ·exact VsO.back (vU bi) (ku _ _ _)
  cases aB:eg az (dL 4 (dS az (f.getD 0 0)) (f.getD 0 0:Nat) (f.getD 1 0:Nat) 0) k.pos with
  |error q=>exact VsO.err
  |ok aX=>exact VsO.back (vU bi) (VsO.back (ku _ _ _ _ _ aB) (ku _ _ _))
theorem MI:VsO st (po st k a b c):=by
 unfold po;cases bi:im st [a,b,c] k.pos with
 |error q=>exact VsO.err
 |ok y=>exact VsO.back (vU bi) (ku _ _ _)
theorem Cc:VsO st (ju st k a n):=by
 grind[ju,VsO.err,ku]
theorem Cd{i}:VsO st (jK st k a i n):=by
 grind[jK,VsO.err,ku]
theorem I3(st k a x):VsO st (mg st k a x):=by
 grind[mg,VsO.err,qj]
theorem MJ(st k a x d):VsO st (lX st k a x d):=by
 unfold lX;split
 ·cases aB:eg st (dL 10 (dS st x) (d:Int) 0 0) k.pos with
  |error q=>exact VsO.err
  |ok aX=>exact VsO.back (ku _ _ _ _ _ aB) (qj _ _ _)
 grind[VsO.err,qj]
theorem ES(st loc e ys):VsO st (iQ st loc e ys):=by
 cases e with
 |num t=>exact ku _ _ _
 |name t=>
  simp only[iQ];cases aD:dX st loc t with
  |error q=>exact VsO.err
  |ok v=>exact λs x h=>by cases h;rfl
 |neg o e=>exact ku _ _ _
 |bin o a b=>exact MH
 |call t es=>exact VsO.err
 |key1 k e=>grind[iQ,ku]
 |key2 k a b=>
  grind[iQ,I2,ku]
 |key3 k a b c=>exact MI
 |keyN k e n=>exact Cc
 |put k e i n=>exact Cd
 |grad k e x=>
  grind[iQ,VsO.err,I3]
 |jvp k e x d=>
  grind[iQ,VsO.err,MJ]
theorem Ce{s}(h:iQ st loc e ys=.ok (s,a)):s.calls=st.calls:=by
 rw[ES st loc e ys s a h]
theorem sN{t}(h:CnG st (t::S) G)(az:t.ent=false)(e:kQ st t S G=.ok c):CnG c.st c.ks c.xs:=by
 unfold kQ at e;cases aC:jT st t.loc t.e with
 |some q=>grind
 |none=>
  rw[aC]at e;cases e;have g:=h.k t (List.mem_cons_self ..);refine⟨h.g,h.m,h.s,h.c,λy aY=>?_,h.x,?_⟩
  ·obtain aY|aY:=List.mem_append.1 aY
   ·obtain⟨e,bl,rfl⟩:=List.mem_map.1 aY;exact⟨g.1.kids e bl,g.2⟩
   obtain rfl|aY:=List.mem_cons.1 aY
   ·exact g
   exact h.k y (h5 _ aY)
  have X:=h.w;have K:wtS ((d7 t.e).map (λe=>(⟨e,t.loc,_⟩:Tsk)))=szL _:=AN _ _;grind[vR,wtS,I1,wtK]
theorem LcOK.zip{ps:List (List UInt8)}(h:∀y∈ys,y<n):LcOK (ps.zip ys) n:=λb I=>h b.2 (List.of_mem_zip (show(b.1,b.2)∈_ from I)).2
theorem sO{t}(h:CnG st (t::S) G)(az:t.ent=true)(ab:(d7 t.e).length<=G.length)(e:jE st t S G=.ok c):CnG c.st c.ks c.xs:=by
 have g:=h.k t (List.mem_cons_self ..);have X:=h.w;have ag:wtK t=1:=by unfold wtK;rw[az];rfl
 rw[wtS,ag]at X;cases aj:oJ t.e with
 |true=>
  obtain⟨f,J,C⟩:=t;cases f with
  |call af es=>
   unfold jE py at e;simp only at e;by_cases d:500<=st.calls
   ·grind
   rw[h2 d]at e;cases bi:d8 st.names af.text with
   |none=>grind
   |some b=>
    rw[bi]at e;cases b with
    |val _ _=>cases e
    |fn bb ps body=>
     simp only at e;by_cases bA:ps.length=es.length
     ·rw[h3 bA]at e;cases e;have i:=List.mem_of_find?_eq_some bi;have I:EOK _:=h.m _ i;have ai:=h.s _ _ _ i;refine⟨⟨h.g.n,h.g.c,h.g.ok,h.g.k,h.g.i,h.g.o,h.g.m⟩,h.m,h.s,by grind,λy aY=>?_,λy aY=>h.x y (List.mem_of_mem_take aY),?_⟩
      ·obtain rfl|aY:=List.mem_cons.1 aY
       ·exact⟨I,LcOK.zip (λy aY=>h.x y (List.mem_of_mem_drop aY))⟩
       exact h.k y (h5 _ aY)
      grind[wtS,wtK]
     grind
  |_=>cases aj
 |false=>
  obtain⟨f,J,C⟩:=t;have ar:G=G.take (G.length-(d7 f).length)++G.drop _:=(List.take_append_drop _ _).symm;have i1:(G.drop (G.length-(d7 f).length)).length=(d7 f).length:=by grind
  rw[ar,qg aj i1]at e;have j:=ER h.g h.m g.2 g.1 (λy aY=>h.x y (List.mem_of_mem_drop aY)) i1;cases aD:iQ st J f (G.drop (G.length-(d7 f).length)) with
  |error q=>rw[aD]at e;cases e
  |ok r=>
   obtain⟨ak,a⟩:=r;rw[aD]at e;cases e;obtain⟨w,F⟩:=j _ a aD;have aa:=Ce aD;refine⟨w.g,h.m.gw w,by show NmS ak.names;rw[w.m];exact h.s,by show ak.calls<=500;rw[aa];exact h.c,λy aY=>⟨(h.k y (h5 _ aY)).1,(h.k y (h5 _ aY)).2.le w.n⟩,λy aY=>?_,?_⟩
   ·obtain aY|aY:=List.mem_append.1 (show y∈G.take _++[a] from aY)
    ·exact yaj (h.x y (List.mem_of_mem_take aY)) w.n
    grind
   grind
theorem fH{base e size n:Nat}{W}(h:W.ownsRow base e size v n G)(c:Chg S W A)(aZ:∀b,v.ownBlock=some b->¬S b):A.ownsRow base e size v n G:=by
 refine⟨h.1,h.2.imp id ?_⟩;exact xfg
theorem Mp.chg{w D F}(h:Mp w b F)(c:Chg S w D)(aZ:¬S b):Mp D b F:=h.same (c.block b h.lt aZ)
structure Tqe where
 P:Nat
 T:Nat
 V:Nat
 F:Nat
 N:Nat
 u1:Value
 u3:Value
def mE(ns:List Bdg)(s:List UInt8):Option Value:=match d8 ns s with
 |some (.val _ v)=>some (.int .i64 (v:Int))
 |_=>none
def FnA(W:World)(N:Nat)(b:Option Bdg)(g:Option Value):Prop:=match b with
 |some (.fn _ ps body)=>∃sl T x,g=some (.agg #[sl,.iface T x])/\PkR W 0 sl (ps.map cvT)/\(∀b,sl.ownBlock=some b->b<N)/\Nd W (λb=>b<N) (.iface T x) body/\(ps.map (·.text)).Nodup/\ENk body/\∀p∈ps,p.sym≠[]/\p.text≠[]
 |_=>g=none
theorem FnA.chg{W N g}(h:FnA W N b g)(c:Chg S W A)(aZ:∀b,S b->¬b<N):FnA A N b g:=by
 cases b with
 |none=>exact h
 |some b=>
  cases b with
  |val n v=>exact h
  |fn n ps body=>
   obtain⟨sl,T,x,z,J,al,bw,bL⟩:=h;exact⟨_,T,x,z,fH J c (λb e q=>aZ b q (al b e)),al,bw.chg c aZ,bL⟩
def PrM(W:World)(ρ:Nat->Nat)(v:Value)(loc:Loc):Prop:=(v=.map none/\loc=[])\/∃q,v=.map (some q)/\ρ q=10/\Mp W q (λs=>(kj loc s).map λn:Nat=>Value.int .i64 (n:Int))
structure TkV where
 v:Value
 p:Value
 t:Tsk
def TkV.cells(y:TkV):List Value:=[y.v,y.p,.bool y.t.ent]
def tkC:List TkV->List Value
 |[]=>[]
 |y::r=>y.cells++tkC r
theorem pA(a b):tkC (a++b)=tkC a++tkC b:=by
 induction a<;>grind[tkC]
theorem rh(y):tkC [y]=y.cells:=by simp[tkC]
theorem pB(a):(tkC a).length=a.length*3:=by
 induction a<;>simp_all[tkC,TkV.cells]<;>grind
def ie(xs:List Nat):List Value:=xs.map λn:Nat=>.int .i64 (n:Int)
def kT(xs:List Int):List Value:=xs.map λn=>.int .i64 n
structure TqB(E:Tqe)(ρ:Nat->Nat)(W:World)(ins:List Int)(vs:List Vl)(outs:List Int)(u1 u3 vv:Value):Prop where
 b:BS W E.P u1 u3 vs (dK vs) E.N vv.ownBlock vv
 i:W.ownsRow E.N 3 1 u1 ins.length (kT ins)
 o:W.ownsRow E.N 3 1 u3 outs.length (kT outs)
 rP:ρ E.P=1
 rR:∀b,vv.ownBlock=some b->ρ b=5
 ri:∀b,u1.ownBlock=some b->ρ b=6
 ro:∀b,u3.ownBlock=some b->ρ b=7
 e1:u1=E.u1
 e3:u3=E.u3
structure TcC(E:Tqe)(W:World)(calls:Nat)(tv xv:Value):Prop where
 lt:E.T<W.heap.size
 fz:∀o,W.frozen? ⟨E.T,o,none⟩=false
 t0:W.cell? ⟨E.T,0,none⟩=some (.pointer (some ⟨E.P,0,none⟩))
 t1:W.cell? ⟨E.T,1,none⟩=some (.map (some E.V))
 t2:W.cell? ⟨E.T,2,none⟩=some (.map (some E.F))
 t3:W.cell? ⟨E.T,3,none⟩=some (.int .i64 (calls:Int))
 t4:W.cell? ⟨E.T,4,none⟩=some tv
 t5:W.cell? ⟨E.T,5,none⟩=some xv
theorem TcC.chg{E W}(h:TcC E W calls bm am)(c:Chg S W A)(C:¬S E.T):TcC E A calls bm am:=
 ⟨yaj h.lt c.size,λo=>(c.frozen (p:=⟨E.T,o,none⟩) h.lt C).trans (h.fz o),(c.cell (p:=⟨E.T,0,none⟩) h.lt C).trans h.t0,(c.cell (p:=⟨E.T,1,none⟩) h.lt C).trans h.t1,(c.cell (p:=⟨E.T,2,none⟩) h.lt C).trans h.t2,(c.cell (p:=⟨E.T,3,none⟩) h.lt C).trans h.t3,(c.cell (p:=⟨E.T,4,none⟩) h.lt C).trans h.t4,(c.cell (p:=⟨E.T,5,none⟩) h.lt C).trans h.t5⟩
theorem fp{T o}{W:World}(h:k≠o):(W.setCell ⟨T,k,none⟩ v).cell? ⟨T,o,none⟩=W.cell? ⟨T,o,none⟩:=h6 W ⟨T,k,none⟩ ⟨T,o,none⟩ v (λc=>h (congrArg Addr.off c))
theorem TcC.set3{E W}(h:TcC E W calls bm am)(n:Nat):TcC E (W.setCell ⟨E.T,3,none⟩ (h0 n)) n bm am:=
 ⟨by simpa[go_sem] using h.lt,λo=>by rw[World.frozen?_setCell];exact h.fz o,by rw[fp xab];exact h.t0,by rw[fp xab];exact h.t1,by rw[fp xab];exact h.t2,by rw[World.cell?_setCell_same (h:=h.t3)],by rw[fp xab];exact h.t4,by rw[fp xab];exact h.t5⟩
theorem TcC.set4{E W}(h:TcC E W calls bm am)(v):TcC E (W.setCell ⟨E.T,4,none⟩ v) calls v am:=
 ⟨by simpa[go_sem] using h.lt,λo=>by rw[World.frozen?_setCell];exact h.fz o,by rw[fp xab];exact h.t0,by rw[fp xab];exact h.t1,by rw[fp xab];exact h.t2,by rw[fp xab];exact h.t3,by rw[World.cell?_setCell_same (h:=h.t4)],by rw[fp xab];exact h.t5⟩
theorem TcC.set5{E W}(h:TcC E W calls bm am)(v):TcC E (W.setCell ⟨E.T,5,none⟩ v) calls bm v:=
 ⟨by simpa[go_sem] using h.lt,λo=>by rw[World.frozen?_setCell];exact h.fz o,by rw[fp xab];exact h.t0,by rw[fp xab];exact h.t1,by rw[fp xab];exact h.t2,by rw[fp xab];exact h.t3,by rw[fp xab];exact h.t4,by rw[World.cell?_setCell_same (h:=h.t5)]⟩
structure TqT(E:Tqe)(ρ:Nat->Nat)(W:World)(names:List Bdg)(calls:Nat)(L:List TkV)(xs:List Nat)(tv xv:Value):Prop extends TcC E W calls tv xv where
 k:W.ownsRow E.N 232 3 tv L.length (tkC L.reverse)
 x:W.ownsRow E.N 3 1 xv xs.length (ie xs)
 v:Mp W E.V (mE names)
 f:∃G,Mp W E.F G/\∀s,FnA W E.N (d8 names s) (G s)
 l:∀y∈L,Nd W (λb=>b<E.N) y.v y.t.e/\PrM W ρ y.p y.t.loc/\ENk y.t.e
 rT:ρ E.T=2
 rV:ρ E.V=3
 rF:ρ E.F=4
 rk:∀b,tv.ownBlock=some b->ρ b=8
 rx:∀b,xv.ownBlock=some b->ρ b=9
 r0:∀b,b<E.N->ρ b=0
 rN:∀b,W.heap.size<=b->ρ b=0
 sz:E.N<=W.heap.size
def Tq(E:Tqe)(ρ:Nat->Nat)(W:World)(st:LSt)(L:List TkV)(xs:List Nat):Prop:=∃u1 u3 vv tv xv,TqB E ρ W st.ins st.vs st.outs u1 u3 vv/\TqT E ρ W st.names st.calls L xs tv xv
structure Sco(ρ:Nat->Nat)(W:World)(ρ':Nat->Nat)(W':World):Prop where
 chg:Chg (λb=>ρ b≠0) W W'
 ext:∀b,b<W.heap.size->ρ' b=ρ b
theorem Sco.refl(ρ W):Sco ρ W ρ W:=⟨⟨rfl,rfl,rfl,yac,λ_ _ _=>rfl⟩,λ_ _=>rfl⟩
theorem Sco.trans{W bx}(a:Sco ρ W ρ' A)(b:Sco ρ' A c bx):Sco ρ W c bx where
 chg:=⟨b.chg.os.trans a.chg.os,b.chg.tape.trans a.chg.tape,b.chg.output.trans a.chg.output,yan a.chg.size b.chg.size,λk H V=>by
  rw[b.chg.block k (yaj H a.chg.size) (by rw[a.ext k H];exact V)]
  exact a.chg.block k H V⟩
 ext:=λi hi=>(b.ext i (yaj hi a.chg.size)).trans (a.ext i hi)
theorem Sco.of{W}(c:Chg S W A)(aZ:∀b,b<W.heap.size->S b->ρ b≠0)(e:∀b,b<W.heap.size->ρ' b=ρ b):Sco ρ W ρ' A:=⟨⟨c.os,c.tape,c.output,c.size,λk H V=>c.block k H (λq=>V (aZ k H q))⟩,e⟩
theorem Sco.kept{W}(k:Kept 0 0 W A):Sco ρ W ρ A:=⟨k.chg,λ_ _=>rfl⟩
theorem PrM.chg{W}(h:PrM W ρ v loc)(c:Chg S W A)(aZ:∀b,S b->ρ b≠10)(e:∀b,b<W.heap.size->ρ' b=ρ b):PrM A ρ' v loc:=by
 obtain h|⟨q,z,J,al⟩:=h
 ·exact .inl h
 exact .inr ⟨q,z,(e q al.lt).trans J,al.chg c (λai=>aZ _ ai J)⟩
theorem cI.qcz(h:Zp:=by
 have C:¬(E.T<W.heap.size/\S _):=λq=>(aZ _ q.1 q.2).2.1 h.rT;have bb:∀b,(b<W.heap.size/\S b)->¬b<E.N:=λb q I=>by grind
 obtain⟨bv,bz,aJ⟩:=h.f
 refine⟨h.toTcC.chg f C,
  fH h.k f (λb e q=>(aZ b q.1 q.2).2.2.2.2.1 (h.rk b e)),fH h.x f (λb e q=>(aZ b q.1 q.2).2.2.2.2.2.1 (h.rx b e)),
  h.v.chg f (λq=>(aZ _ q.1 q.2).2.2.1 h.rV),⟨bv,bz.chg f (λq=>(aZ _ q.1 q.2).2.2.2.1 h.rF),λs=>(aJ s).chg f bb⟩,
  λy aY=>⟨(h.l y aY).1.chg f bb,(h.l y aY).2.1.chg f (λb q=>(aZ b q.1 q.2).2.2.2.2.2.2) e,(h.l y aY).2.2⟩,
  (e _ h.lt).trans h.rT,(e _ h.v.lt).trans h.rV,(e _ bz.lt).trans h.rF,λb q=>(e b (dO h.k q).2).trans (h.rk b q),λb q=>(e b (dO h.x q).2).trans (h.rx b q),
  λb q=>(e b (yaj q h.sz)).trans (h.r0 b q),i,yan h.sz c.size⟩):Zp:=h
open cI in
theorem TqT.chgN{E W}(h:TqT E ρ W names calls aO G bm am)(c:Chg S W A)(aZ:∀b,b<W.heap.size->S b->E.N<=b/\ρ b≠2/\ρ b≠3/\ρ b≠4/\ρ b≠8/\ρ b≠9/\ρ b≠10)(e:∀b,b<W.heap.size->ρ' b=ρ b)(i:∀b,A.heap.size<=b->ρ' b=0):TqT E ρ' A names calls aO G bm am:=by
 exact qcy
theorem TqT.chg{E W}(h:TqT E ρ W names calls aO G bm am)(c:Chg S W A)(aZ:∀b,b<W.heap.size->S b->ρ b≠0/\ρ b≠2/\ρ b≠3/\ρ b≠4/\ρ b≠8/\ρ b≠9/\ρ b≠10)(e:∀b,b<W.heap.size->ρ' b=ρ b)(i:∀b,A.heap.size<=b->ρ' b=0):TqT E ρ' A names calls aO G bm am:=
 h.chgN c (λb I q=>⟨Nat.le_of_not_lt (λk=>(aZ b I q).1 (h.r0 b k)),(aZ b I q).2⟩) e i
theorem cJ.qcz(h:Zp:=by
 have bb:∀b,(b<W.heap.size/\S b)->¬b<E.N:=λb q I=>ip (aZ b q.1 q.2) (h.r0 b I)
 obtain⟨bv,bz,aJ⟩:=h.f
 exact⟨C,H,ar,h.v.chg f (λq=>ip (aZ _ q.1 q.2) h.rV),⟨bv,bz.chg f (λq=>ip (aZ _ q.1 q.2) h.rF),λs=>(aJ s).chg f bb⟩,
  λy aY=>⟨(ab y aY).1.chg f bb,(ab y aY).2.1.chg f (λb q=>by grind) e,(ab y aY).2.2⟩,
  (e _ h.lt).trans h.rT,(e _ h.v.lt).trans h.rV,(e _ bz.lt).trans h.rF,ds,m,λb q=>(e b (yaj q h.sz)).trans (h.r0 b q),i,yan h.sz c.size⟩):Zp:=h
open cJ in
theorem TqT.own{E W g L' xs' xv'}(h:TqT E ρ W names calls aO G bm am)(c:Chg S W A)(aZ:∀b,b<W.heap.size->S b->ρ b=2\/ρ b=8\/ρ b=9)(e:∀b,b<W.heap.size->ρ' b=ρ b)(i:∀b,A.heap.size<=b->ρ' b=0)(C:TcC E A g a xv')(H:A.ownsRow E.N 232 3 a L'.length (tkC L'.reverse))(ds:∀b,a.ownBlock=some b->ρ' b=8)(ar:A.ownsRow E.N 3 1 xv' xs'.length (ie xs'))(m:∀b,xv'.ownBlock=some b->ρ' b=9)(ab:∀y∈L',Nd W (λb=>b<E.N) y.v y.t.e/\PrM W ρ y.p y.t.loc/\ENk y.t.e):TqT E ρ' A names g L' xs' a xv':=by
 exact qcy
theorem cK.qcz(h:Zp:=by
 exact⟨h.b.chg f (λq=>(aZ _ q.1 q.2).1 h.rP) (λb e q=>(aZ b q.1 q.2).2.1 (h.rR b e)),fH h.i f (λb e q=>(aZ b q.1 q.2).2.2.1 (h.ri b e)),fH h.o f (λb e q=>(aZ b q.1 q.2).2.2.2 (h.ro b e)),
  (e _ h.b.lt).trans h.rP,λb q=>(e b (dO h.b.own q).2).trans (h.rR b q),λb q=>(e b (dO h.i q).2).trans (h.ri b q),λb q=>(e b (dO h.o q).2).trans (h.ro b q),h.e1,h.e3⟩):Zp:=h
open cK in
theorem TqB.chg{E W ins vs outs u1 u3 Y}(h:TqB E ρ W ins vs outs u1 u3 Y)(c:Chg S W A)(aZ:∀b,b<W.heap.size->S b->ρ b≠1/\ρ b≠5/\ρ b≠6/\ρ b≠7)(e:∀b,b<W.heap.size->ρ' b=ρ b):TqB E ρ' A ins vs outs u1 u3 Y:=by
 exact qcy
theorem Tq.keep{E W}(h:Tq E ρ W st aO G)(k:Kept 0 0 W A):Tq E ρ A st aO G:=by
 obtain⟨u1,u3,Y,bm,am,ax,C⟩:=h;exact⟨_,_,_,_,_,ax.chg (k.chg (S:=λ_=>False)) (λ_ _ q=>q.elim) (λ_ _=>rfl),C.chg (k.chg (S:=λ_=>False)) (λ_ _ q=>q.elim) (λ_ _=>rfl) (λb I=>C.rN b (yan k.size I))⟩
theorem Tq.priv{E W bv}(h:Tq E ρ W st aO G)(c:Chg (λb=>b=bv) W A)(bL:E.N<=bv)(aC:ρ bv=0):Tq E ρ A st aO G:=by
 obtain⟨u1,u3,Y,bm,am,ax,C⟩:=h;exact⟨_,_,_,_,_,ax.chg c (λb _ q=>by grind) (λ_ _=>rfl),C.chgN c (λb _ q=>by grind) (λ_ _=>rfl) (λb I=>C.rN b (yan c.size I))⟩
theorem Sco.priv{W bx bv}(a:Sco ρ W ρ' A)(c:Chg (λb=>b=bv) A bx)(bL:W.heap.size<=bv):Sco ρ W ρ' bx:=
 ⟨⟨c.os.trans a.chg.os,c.tape.trans a.chg.tape,c.output.trans a.chg.output,yan a.chg.size c.size,λk H V=>(c.block k (yaj H a.chg.size) xaa).trans (a.chg.block k H V)⟩,a.ext⟩
def lI(ρ:Nat->Nat)(r c:Nat):Nat->Nat:=λb=>if b=r then c else ρ b
theorem nN{r}(h:n<=r):∀b,b<n->lI ρ r c b=ρ b:=λb I=>by unfold lI;grind
theorem lj(ρ r c):lI ρ r c r=c:=by unfold lI;grind
theorem Tq.built{E W ins vs outs u1 u3 Y a5 R'}(ax:TqB E ρ W ins vs outs u1 u3 Y)(C:TqT E ρ W names calls aO G bm am)(h:BS A E.P u1 u3 a (dK a) E.N R' a5)(s:Stp E.P Y.ownBlock W R' A):
  ∃ρ',TqB E ρ' A ins a outs u1 u3 a5/\TqT E ρ' A names calls aO G bm am/\Sco ρ W ρ' A:=by
 have aj:∀b,(b=E.P\/Y.ownBlock=some b)->ρ b=1\/ρ b=5:=λb q=>q.elim (λe=>.inl (it e ax.rP)) (λe=>.inr (ax.rR b e));have aw:=h.row
 have j:∀ρ',(∀b,b<W.heap.size->ρ' b=ρ b)->(∀b,A.heap.size<=b->ρ' b=0)->(∀b,R'=some b->ρ' b=5)->TqB E _ _ _ _ _ _ _ _/\TqT E _ _ _ _ aO _ _ _/\Sco _ W ρ' _:=λρ' e i bU=>by
  refine⟨⟨it aw h,fH ax.i s.chg (λb e q=>ip (ax.ri b e) (aj b q)),fH ax.o s.chg (λb e q=>ip (ax.ro b e) (aj b q)),(e _ ax.b.lt).trans ax.rP,λb q=>bU b (iv aw q),λb q=>(e b (dO ax.i q).2).trans (ax.ri b q),λb q=>(e b (dO ax.o q).2).trans (ax.ro b q),ax.e1,ax.e3⟩,
   C.chg s.chg (λb _ q=>by grind) e i,Sco.of s.chg (λb _ q=>by grind) e⟩
 obtain K|⟨r,K,ah⟩:=s.row
 ·exact⟨_,j _ (λ_ _=>rfl) (λb I=>C.rN b (yan s.chg.size I)) (λb q=>ax.rR b (by grind))⟩
 have y:=(dO h.own (it aw K)).2;refine⟨lI _ r 5,j _ (nN ah) (λb I=>?_) (λb q=>?_)⟩
 ·unfold lI;rw[h2 xaa];exact C.rN b (yan s.chg.size I)
 grind[lj]
