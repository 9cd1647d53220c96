import Derived.Test.YtdpbpcnldpkljaaGreatP31
import Derived.Test.YtdpbpcnldpkljaaGreatP33
import Derived.Test.YtdpbpcnldpkljaaGreatP22
namespace Go.Proofs.Z
open Tryz
set_option maxRecDepth 1000000
set_option maxHeartbeats 0
section
open Go.RowKit Flt
variable {st b st':LSt} {f a x:Nat} {vs:List Vl} {js:List Nat} {r:Rs (LSt×Nat)}
theorem Gd.v (g:Gd st):GVal st.ins st.vs:=⟨λi hi=>List.all_eq_true.1 g.ok i (List.mem_range.2 hi),g.k⟩
theorem Gd.with (g:Gd st)(h:GVal st.ins vs)(hl:ji vs=false):Gd {st with vs:=vs}:=by
 obtain⟨h1,h2⟩:=Ay hl
 exact⟨h1,h2,List.all_eq_true.2 (λi hi=>h.1 i (List.mem_range.1 hi)),h.2,g.i,g.o,g.m⟩
structure Gw (st st':LSt):Prop where
 g:Gd st'
 n:st.vs.length<=st'.vs.length
 l:∀i,i<st.vs.length->eU st' i=eU st i
 i:st'.ins=st.ins
 o:st'.outs=st.outs
 m:st'.names=st.names
theorem Gw.refl (g:Gd st):Gw st st:=⟨g,yad,λ_ _=>rfl,rfl,rfl,rfl⟩
theorem Gw.trans {a c:LSt}(h:Gw a b)(k:Gw b c):Gw a c:=
 ⟨k.g,yan h.n k.n,λi hi=>(k.l i (yaj hi h.n)).trans (h.l i hi),k.i.trans h.i,k.o.trans h.o,k.m.trans h.m⟩
def RsG (st:LSt)(r:Rs (LSt×Nat)):Prop:=∀st' v,r=.ok (st',v)->Gw st st'/\v<st'.vs.length
theorem gn {f:Aq}:RsG st (.error f):=λ_ _ h=>by cases h
theorem Ba {v:Nat}(h:Gw st st')(hv:v<st'.vs.length):RsG st (.ok (st',v)):=λ_ _ e=>by cases e;exact⟨h,hv⟩
theorem RsG.back {a:LSt}(h:Gw a b)(k:RsG b r):RsG a r:=λs v e=>⟨h.trans (k s v e).1,(k s v e).2⟩
theorem Bb (p:Pre st.vs vs){i:Nat}(hi:i<st.vs.length):eU {st with vs:=vs} i=eU st i:=by
 unfold eU
 simp only
 rw[(p.at_ hi).1]
theorem Bd (g:Gd st)(h:GVal st.ins vs)(hl:ji vs=false)(p:Pre st.vs vs):Gw st {st with vs:=vs}:=
 ⟨g.with h hl,by obtain⟨r,rfl⟩:=p;simp,λi hi=>Bb p hi,rfl,rfl,rfl⟩
theorem lN (g:Gd st){v:Vl}(h:GVal st.ins (st.vs++[v])){p:Nat}{j:Nat}(e:fI st v p=.ok (st',j)):Gw st st'/\j<st'.vs.length/\eU st' j=v.len:=by
 unfold fI at e
 cases hl:ji (st.vs++[v]) with
 |true=>rw[hl,if_pos rfl] at e;cases e
 |false=>
  rw[hl,if_neg xac] at e
  cases e
  have hn:=gN st.vs v (j:=(st.vs.length:Int)) rfl (rfl:v.len=v.len)
  exact⟨Bd g h hl ⟨_,rfl⟩,by simp,by have:=hn.2.2;rw[Int.toNat_natCast] at this;exact this⟩
theorem jc (g:Gd st){v:Vl}(h:GVal st.ins (st.vs++[v]))(p:Nat):RsG st (fI st v p):=λ_ _ e=>⟨(lN g h e).1,(lN g h e).2.1⟩
theorem mI (g:Gd st){m:List Vl×Int}{n:Int}(h:GVal st.ins m.1/\Ln m.1 m.2 n/\Pre st.vs m.1)(p:Nat):RsG st (gZ st m p):=by
 unfold gZ
 cases hl:ji m.1 with
 |true=>rw[if_pos rfl];exact gn
 |false=>
  rw[if_neg xac]
  refine Ba (Bd g h.1 hl h.2.2) ?_
  have:=h.2.1.1
  have:=h.2.1.2.1
  show m.2.toNat<m.1.length
  omega
theorem i5 {i:Nat}(h:i<st.vs.length):Ln st.vs (i:Int) (eU st i):=⟨by omega,by omega,by rw[Int.toNat_natCast];rfl⟩
theorem nY (n:Int)(p:Nat)(hn:1<=n/\n<=1000):∀(xs:List Nat) (st:LSt),Gd st->(∀i∈xs,i<st.vs.length/\(eU st i=n\/eU st i=1))->∀st' js,gS n p st xs=.ok (st',js)->Gw st st'/\js.length=xs.length/\∀j∈js,j<st'.vs.length/\eU st' j=n
 |[],st,g,_,st',js,e=>by
  cases e
  exact⟨Gw.refl g,rfl,λj hj=>by cases hj⟩
 |i::r,st,g,hx,st',js,e=>by
  have hi:=hx i (List.mem_cons_self ..)
  by_cases c:eU st i<n
  ·have h1:eU st i=1:=xaa
   cases hp:fI st (eI 10 n (i:Int) 0 0) p with
   |error f=>rw[ms c hp] at e;cases e
   |ok x=>
    obtain⟨s1,j⟩:=x
    obtain⟨w1,w2,w3⟩:=lN g (g.v.p10 hn (by rw[<-h1];exact i5 hi.1)) hp
    rw[mr c hp] at e
    cases hf:gS n p s1 r with
    |error f=>rw[hf] at e;cases e
    |ok y=>
     obtain⟨s2,ks⟩:=y
     rw[hf] at e
     cases e
     obtain⟨k1,k2,k3⟩:=nY n p hn r s1 w1.g (λq hq=>by
      have h:=hx q (List.mem_cons_of_mem _ hq)
      rw[w1.l q h.1]
      exact⟨yaj h.1 w1.n,h.2⟩) _ _ hf
     refine⟨w1.trans k1,by simp[k2],λq hq=>?_⟩
     rcases List.mem_cons.1 hq with rfl|hq
     ·exact⟨yaj w2 k1.n,(k1.l q w2).trans w3⟩
     ·exact k3 q hq
  ·have h1:eU st i=n:=xaa
   rw[lJ c] at e
   cases hf:gS n p st r with
   |error f=>rw[hf] at e;cases e
   |ok y=>
    obtain⟨s2,ks⟩:=y
    rw[hf] at e
    cases e
    obtain⟨k1,k2,k3⟩:=nY n p hn r st g (λq hq=>hx q (List.mem_cons_of_mem _ hq)) _ _ hf
    refine⟨k1,by simp[k2],λq hq=>?_⟩
    rcases List.mem_cons.1 hq with rfl|hq
    ·exact⟨yaj hi.1 k1.n,(k1.l q hi.1).trans h1⟩
    ·exact k3 q hq
theorem jH (g:Gd st)(xs:List Nat)(p:Nat)(hx:∀i∈xs,i<st.vs.length)(e:iY st xs p=.ok (st',js)):Gw st st'/\js.length=xs.length/\∃n,∀j∈js,j<st'.vs.length/\eU st' j=n:=by
 unfold iY at e
 by_cases c:xs.all (λi=>eU st i==lk st xs||eU st i==1)=true
 ·rw[if_pos c] at e
  have hb:=sj g xs hx xs.length yad
  rw[List.take_length] at hb
  obtain⟨h1,h2,h3⟩:=nY (lk st xs) p hb xs st g (λi hi=>⟨hx i hi,by have:=List.all_eq_true.1 c i hi;simpa using this⟩) st' js e
  exact⟨h1,h2,_,h3⟩
 ·rw[if_neg c] at e;cases e
theorem jY {k:Nat}(h:k<js.length):js.getD k 0∈js:=by
 rw[yah,yal h];exact List.getElem_mem h
theorem Be (s:List UInt8):lq s=2\/lq s=3\/lq s=4\/lq s=5\/lq s=7:=by
 unfold lq
 split
 ·exact .inl rfl
 ·split
  ·exact .inr (.inl rfl)
  ·split
   ·exact .inr (.inr (.inl rfl))
   ·exact .inr (.inr (.inr (.inl rfl)))
theorem DO (g:Gd st)(o:Tok){b:Nat}(ha:a<st.vs.length)(hb:b<st.vs.length):RsG st (m6 st o a b):=by
 unfold m6
 cases hf:iY st [a,b] o.pos with
 |error f=>exact gn
 |ok x=>
  obtain⟨s2,f⟩:=x
  obtain⟨h1,h2,n,h3⟩:=jH g [a,b] o.pos (by intro i hi;simp at hi;rcases hi with rfl|rfl<;>assumption) hf
  have f0:=h3 _ (jY (js:=f) (k:=0) (by rw[h2];simp))
  have f1:=h3 _ (jY (js:=f) (k:=1) (by rw[h2];simp))
  have l0:=i5 f0.1
  have l1:=i5 f1.1
  rw[f1.2,<-f0.2] at l1
  exact RsG.back h1 (jc h1.g (h1.g.v.two (Be _) l0 l1) _)
theorem Bf (g:Gd st)(k:Tok){b:Nat}(ha:a<st.vs.length)(hb:b<st.vs.length):RsG st (m7 st k a b):=by
 unfold m7
 cases hf:iY st [a,b] k.pos with
 |error f=>exact gn
 |ok x=>
  obtain⟨s2,f⟩:=x
  obtain⟨h1,h2,n,h3⟩:=jH g [a,b] k.pos (by intro i hi;simp at hi;rcases hi with rfl|rfl<;>assumption) hf
  have f0:=h3 _ (jY (js:=f) (k:=0) (by rw[h2];simp))
  have f1:=h3 _ (jY (js:=f) (k:=1) (by rw[h2];simp))
  have l0:=i5 f0.1
  have l1:=i5 f1.1
  rw[f1.2,<-f0.2] at l1
  simp only
  by_cases c:k.sym=uZ
  ·rw[if_pos c]
   exact RsG.back h1 (jc h1.g (h1.g.v.two (.inr (.inr (.inr (.inr rfl)))) l0 l1) _)
  ·rw[if_neg c]
   cases hp:fI s2 (eI 4 (eU s2 (f.getD 0 0)) (f.getD 0 0:Nat) (f.getD 1 0:Nat) 0) k.pos with
   |error f=>exact gn
   |ok x=>
    obtain⟨s3,j⟩:=x
    obtain⟨w1,w2,w3⟩:=lN h1.g (h1.g.v.two (.inr (.inr (.inl rfl))) l0 l1) hp
    exact RsG.back (h1.trans w1) (jc w1.g (w1.g.v.p9 (i5 w2)) _)
theorem DP (g:Gd st)(k:Tok){b c:Nat}(ha:a<st.vs.length)(hb:b<st.vs.length)(hc:c<st.vs.length):RsG st (se st k a b c):=by
 unfold se
 cases hf:iY st [a,b,c] k.pos with
 |error f=>exact gn
 |ok x=>
  obtain⟨s2,f⟩:=x
  obtain⟨h1,h2,n,h3⟩:=jH g [a,b,c] k.pos (by intro i hi;simp at hi;rcases hi with rfl|rfl|rfl<;>assumption) hf
  have f0:=h3 _ (jY (js:=f) (k:=0) (by rw[h2];simp))
  have f1:=h3 _ (jY (js:=f) (k:=1) (by rw[h2];simp))
  have f2:=h3 _ (jY (js:=f) (k:=2) (by rw[h2];simp))
  have l0:=i5 f0.1
  have l1:=i5 f1.1
  have l2:=i5 f2.1
  rw[f1.2,<-f0.2] at l1
  rw[f2.2,<-f0.2] at l2
  exact RsG.back h1 (jc h1.g (h1.g.v.sel l0 l1 l2) _)
theorem wI {l:List UInt8}(h:Dgs l):0<=gz l:=by
 have:=mE h yad
 rw[List.take_length] at this
 exact this.1
theorem vC (g:Gd st)(k:Tok)(ha:a<st.vs.length)(n:Tok)(hD:Dgs n.text):RsG st (jS st k a n):=by
 have h0:=wI hD
 have la:=i5 ha
 unfold jS
 by_cases c:k.sym=mW
 ·rw[if_pos c]
  by_cases d:eU st a<=gz n.text
  ·rw[if_pos d];exact gn
  ·rw[if_neg d];exact jc g (g.v.p11 la ⟨h0,by omega⟩) _
 ·rw[if_neg c]
  by_cases d:eU st a≠1
  ·rw[if_pos d];exact gn
  ·rw[if_neg d]
   by_cases e:gz n.text<1\/1000<gz n.text
   ·rw[if_pos e];exact gn
   ·rw[if_neg e]
    rw[Decidable.not_not.1 d] at la
    exact jc g (g.v.p10 ⟨by omega,by omega⟩ la) _
theorem vD (g:Gd st)(k:Tok)(ha:a<st.vs.length)(i n:Tok)(hD:Dgs i.text):RsG st (jT st k a i n):=by
 have h0:=wI hD
 have la:=i5 ha
 unfold jT
 by_cases d:eU st a≠1
 ·rw[if_pos d];exact gn
 ·rw[if_neg d]
  by_cases e:gz n.text<1\/1000<gz n.text
  ·rw[if_pos e];exact gn
  ·rw[if_neg e]
   by_cases q:gz n.text<=gz i.text
   ·rw[if_pos q];exact gn
   ·rw[if_neg q]
    rw[Decidable.not_not.1 d] at la
    exact jc g (g.v.p12 ⟨by omega,by omega⟩ la ⟨h0,by omega⟩) _
theorem Bg (g:Gd st)(k:Tok)(ha:a<st.vs.length)(hx:x<st.vs.length):RsG st (mq st k a x):=by
 unfold mq
 by_cases d:eU st a≠1
 ·rw[if_pos d];exact gn
 ·rw[if_neg d]
  exact mI g (tX g.v ha hx (Decidable.not_not.1 d)) _
theorem DQ (g:Gd st)(k:Tok){d:Nat}(ha:a<st.vs.length)(hx:x<st.vs.length)(hd:d<st.vs.length):RsG st (mD st k a x d):=by
 have lx:=g.lenB hx
 have ld:=i5 hd
 unfold mD
 by_cases c:eU st d=1/\1<eU st x
 ·rw[if_pos c]
  rw[c.1] at ld
  cases hp:fI st (eI 10 (eU st x) (d:Int) 0 0) k.pos with
  |error f=>exact gn
  |ok y=>
   obtain⟨s2,d2⟩:=y
   obtain⟨w1,w2,w3⟩:=lN g (g.v.p10 lx ld) hp
   refine RsG.back w1 (mI w1.g (kJ w1.g.v (yaj ha w1.n) (yaj hx w1.n) ?_) _)
   have l2:=i5 w2
   rw[w3] at l2
   rw[iC]
   have:eU s2 x=eU st x:=w1.l x hx
   rw[show(s2.vs.getD x Vl.zero).len=eU s2 x from rfl,this]
   exact l2
 ·rw[if_neg c]
  by_cases e:eU st d≠eU st x
  ·rw[if_pos e];exact gn
  ·rw[if_neg e]
   refine mI g (kJ g.v ha hx ?_) _
   rw[iC,show(st.vs.getD x Vl.zero).len=eU st x from rfl,<-Decidable.not_not.1 e]
   exact ld
inductive EOK:Ex->Prop
 |num (t:Tok):EOK (.num t)
 |name (t:Tok):EOK (.name t)
 |neg (o:Tok) {e:Ex}:EOK e->EOK (.neg o e)
 |bin (o:Tok) {a b:Ex}:EOK a->EOK b->EOK (.bin o a b)
 |call (t:Tok) {es:List Ex}:(∀e∈es,EOK e)->EOK (.call t es)
 |key1 (k:Tok) {e:Ex}:EOK e->EOK (.key1 k e)
 |key2 (k:Tok) {a b:Ex}:EOK a->EOK b->EOK (.key2 k a b)
 |key3 (k:Tok) {a b c:Ex}:EOK a->EOK b->EOK c->EOK (.key3 k a b c)
 |keyN (k:Tok) {e:Ex} {n:Tok}:EOK e->Dgs n.text->EOK (.keyN k e n)
 |put (k:Tok) {e:Ex} {i n:Tok}:EOK e->Dgs i.text->Dgs n.text->EOK (.put k e i n)
 |grad (k:Tok) {e:Ex} (x:Tok):EOK e->EOK (.grad k e x)
 |jvp (k:Tok) {e d:Ex} (x:Tok):EOK e->EOK d->EOK (.jvp k e x d)
theorem iE {n:Nat}{es:List Ex}{ts:List Tok}(h:Pr n es ts):(∀t∈ts,t.sym=gm->Dgs t.text)->∀e∈es,EOK e:=by
 have one:∀{P:Ex->Prop} {x:Ex},P x->∀e∈[x],P e:=λh e he=>by rw[List.mem_singleton.1 he];exact h
 have un:∀{P:Ex->Prop} {x:Ex},(∀e∈[x],P e)->P x:=λh=>h _ (List.mem_singleton.2 rfl)
 induction h with
 |up01 _ ih=>exact ih
 |up12 _ ih=>exact ih
 |add _ _ _ ih1 ih2=>exact λH=>one (.bin _ (un (ih1 λt ht=>H t (by simp[ht]))) (un (ih2 λt ht=>H t (by simp[ht]))))
 |mul _ _ _ ih1 ih2=>exact λH=>one (.bin _ (un (ih1 λt ht=>H t (by simp[ht]))) (un (ih2 λt ht=>H t (by simp[ht]))))
 |neg _ _ ih=>exact λH=>one (.neg _ (un (ih λt ht=>H t (by simp[ht]))))
 |num _=>exact λ_=>one (.num _)
 |name _=>exact λ_=>one (.name _)
 |par _ _ _ ih=>exact λH=>ih λt ht=>H t (by simp[ht])
 |call0 _ _ _=>exact λ_=>one (.call _ (λe he=>by cases he))
 |call _ _ _ _ ih=>exact λH=>one (.call _ (ih λt ht=>H t (by simp[ht])))
 |arg1 _ ih=>exact ih
 |argM _ _ _ ih1 ih2=>exact λH e he=>(List.mem_append.1 he).elim (ih1 (λt ht=>H t (by simp[ht])) e) (ih2 (λt ht=>H t (by simp[ht])) e)
 |key1 _ _ _ _ ih=>exact λH=>one (.key1 _ (un (ih λt ht=>H t (by simp[ht]))))
 |key2 _ _ _ _ _ _ ih1 ih2=>exact λH=>one (.key2 _ (un (ih1 λt ht=>H t (by simp[ht]))) (un (ih2 λt ht=>H t (by simp[ht]))))
 |key3 _ _ _ _ _ _ _ _ ih1 ih2 ih3=>exact λH=>one (.key3 _ (un (ih1 λt ht=>H t (by simp[ht]))) (un (ih2 λt ht=>H t (by simp[ht]))) (un (ih3 λt ht=>H t (by simp[ht]))))
 |keyN _ _ _ _ hn _ ih=>exact λH=>one (.keyN _ (un (ih λt ht=>H t (by simp[ht]))) (H _ xac hn))
 |put _ _ _ _ hi _ hn _ ih=>exact λH=>one (.put _ (un (ih λt ht=>H t (by simp[ht]))) (H _ xac hi) (H _ xac hn))
 |grad _ _ _ _ _ _ ih=>exact λH=>one (.grad _ _ (un (ih λt ht=>H t (by simp[ht]))))
 |jvp _ _ _ _ _ _ _ _ ih1 ih2=>exact λH=>one (.jvp _ _ (un (ih1 λt ht=>H t (by simp[ht]))) (un (ih2 λt ht=>H t (by simp[ht]))))
def BOK (n:Nat):Bdg->Prop
 |.val _ v=>v<n
 |.fn _ _ e=>EOK e
def NmOK (st:LSt):Prop:=∀b∈st.names,BOK st.vs.length b
theorem BOK.le {n m:Nat}(h:n<=m){b:Bdg}(k:BOK n b):BOK m b:=by
 cases b with
 |val _ v=>exact yaj k h
 |fn _ _ _=>exact k
theorem NmOK.gw {a:LSt}(h:NmOK a)(w:Gw a b):NmOK b:=λx hx=>(h x (by rw[<-w.m];exact hx)).le w.n
def LcOK (loc:Loc)(n:Nat):Prop:=∀b∈loc,b.2<n
theorem LcOK.le {loc:Loc}{n m:Nat}(k:LcOK loc n)(h:n<=m):LcOK loc m:=λb hb=>yaj (k b hb) h
theorem lO (hm:NmOK st){loc:Loc}(hl:LcOK loc st.vs.length){t:Tok}{v:Nat}(e:fh st loc t=.ok v):v<st.vs.length:=by
 unfold fh vp at e
 cases hf:loc.find? (λb=>b.1==t.text) with
 |some b=>
  rw[hf] at e
  simp only[Option.map_some] at e
  cases e
  exact hl b (List.mem_of_find?_eq_some hf)
 |none=>
  rw[hf] at e
  simp only[Option.map_none] at e
  unfold ie at e
  cases hb:st.names.find? (λb=>b.nm==t.text) with
  |none=>rw[hb] at e;cases e
  |some b=>
   rw[hb] at e
   have:=hm b (List.mem_of_find?_eq_some hb)
   cases b with
   |val _ v=>cases e;exact this
   |fn _ _ _=>cases e
theorem gM {r:Option (Rs (LSt×Nat))}{f:LSt->Nat->Option (Rs (LSt×Nat))}(h1:∀q,r=some q->RsG st q)(h2:∀s a,Gw st s->a<s.vs.length->∀q,f s a=some q->RsG s q):∀q,iK r f=some q->RsG st q:=λq e=>by
 unfold iK at e
 cases r with
 |none=>cases e
 |some x=>
  cases x with
  |error x=>cases e;exact gn
  |ok x=>
   obtain⟨s,a⟩:=x
   obtain⟨w,ha⟩:=h1 _ rfl s a rfl
   exact RsG.back w (h2 s a w ha q e)
theorem qW {ev:LSt->Ex->Option (Rs (LSt×Nat))}{st0:LSt}:∀(es:List Ex) (st:LSt),Gw st0 st->(∀e∈es,∀s,Gw st0 s->∀q,ev s e=some q->RsG s q)->∀s2 xs,fF ev st es=some (.ok (s2,xs))->Gw st s2/\xs.length=es.length/\∀x∈xs,x<s2.vs.length
 |[],st,w0,_,s2,xs,e=>by
  cases e
  exact⟨Gw.refl w0.g,rfl,λx hx=>by cases hx⟩
 |e1::r,st,w0,hev,s2,xs,e=>by
  unfold fF at e
  cases h1:ev st e1 with
  |none=>rw[h1] at e;cases e
  |some q=>
   rw[h1] at e
   cases q with
   |error f=>cases e
   |ok x=>
    obtain⟨s1,a⟩:=x
    obtain⟨w,ha⟩:=hev e1 (List.mem_cons_self ..) st w0 _ h1 s1 a rfl
    simp only at e
    cases h2:fF ev s1 r with
    |none=>rw[h2] at e;cases e
    |some q=>
     rw[h2] at e
     cases q with
     |error f=>cases e
     |ok x=>
      obtain⟨s3,ys⟩:=x
      simp only at e
      cases e
      obtain⟨k1,k2,k3⟩:=qW r s1 (w0.trans w) (λe he=>hev e (List.mem_cons_of_mem _ he)) _ _ h2
      refine⟨w.trans k1,by simp[k2],λx hx=>?_⟩
      rcases List.mem_cons.1 hx with rfl|hx
      ·exact yaj ha k1.n
      ·exact k3 x hx
theorem gu {q:Rs (LSt×Nat)}(h:RsG st r)(e:some r=some q):RsG st q:=by cases e;exact h
theorem fW:∀(f:Nat) (st:LSt) (loc:Loc) (e:Ex),Gd st->NmOK st->LcOK loc st.vs.length->EOK e->∀r,eJ f st loc e=some r->RsG st r
 |0,_,_,_,_,_,_,_,r,h=>by cases h
 |f+1,st,loc,e,g,hm,hl,he,r,h=>by
  have ih:∀{e:Ex},EOK e->∀{s:LSt},Gw st s->∀q,eJ f s loc e=some q->RsG s q:=λhe s w q hq=>fW f s loc _ w.g (hm.gw w) (hl.le w.n) he q hq
  cases he with
  |num t=>
   rw[eJ] at h
   exact gu (jc g (g.v.p1 ⟨by decide,by decide⟩ (AK _ _ _)) _) h
  |name t=>
   rw[eJ] at h
   cases hv:fh st loc t with
   |error q=>rw[hv] at h;exact gu gn h
   |ok v=>rw[hv] at h;exact gu (Ba (Gw.refl g) (lO hm hl hv)) h
  |neg o he=>
   rw[eJ] at h
   exact gM (ih he (Gw.refl g)) (λs a w ha q hq=>gu (jc w.g (w.g.v.one (.inl rfl) (i5 ha)) _) hq) r h
  |bin o ha hb=>
   rw[eJ] at h
   exact gM (ih ha (Gw.refl g)) (λs a w ha=>gM (ih hb w) (λs2 b w2 hb q hq=>gu (DO w2.g _ (yaj ha w2.n) hb) hq)) r h
  |call t hes=>
   rename_i es
   rw[eJ] at h
   cases hf:ie st.names t.text with
   |none=>rw[hf] at h;exact gu gn h
   |some b=>
    rw[hf] at h
    cases b with
    |val _ _=>exact gu gn h
    |fn nm ps body=>
     simp only at h
     by_cases c:ps.length=es.length
     ·rw[if_pos c] at h
      cases ha:fF (λs e=>eJ f s loc e) st es with
      |none=>rw[ha] at h;cases h
      |some q=>
       rw[ha] at h
       cases q with
       |error q=>exact gu gn h
       |ok x=>
        obtain⟨s1,xs⟩:=x
        obtain⟨w,w2,w3⟩:=qW es st (st0:=st) (Gw.refl g) (λe he s w q hq=>ih (hes e he) w q hq) s1 xs ha
        simp only at h
        by_cases d:500<=s1.calls
        ·rw[if_pos d] at h;exact gu gn h
        ·rw[if_neg d] at h
         have w4:Gw st {s1 with calls:=s1.calls+1}:=⟨⟨w.g.n,w.g.c,w.g.ok,w.g.k,w.g.i,w.g.o,w.g.m⟩,w.n,w.l,w.i,w.o,w.m⟩
         have hb:EOK body:=hm _ (List.mem_of_find?_eq_some hf)
         exact RsG.back w4 (fW f _ _ body w4.g (hm.gw w4) (λb hb=>w3 b.2 (List.of_mem_zip (show(b.1,b.2)∈_ from hb)).2) hb r h)
     ·rw[if_neg c] at h;exact gu gn h
  |key1 k he=>
   rw[eJ] at h
   refine gM (ih he (Gw.refl g)) (λs a w ha q hq=>gu ?_ hq) r h
   by_cases c:k.sym=tG
   ·rw[if_pos c];exact jc w.g (w.g.v.one (.inr rfl) (i5 ha)) _
   ·rw[if_neg c];exact jc w.g (w.g.v.p9 (i5 ha)) _
  |key2 k ha hb=>
   rw[eJ] at h
   exact gM (ih ha (Gw.refl g)) (λs a w ha=>gM (ih hb w) (λs2 b w2 hb q hq=>gu (Bf w2.g _ (yaj ha w2.n) hb) hq)) r h
  |key3 k ha hb hc=>
   rw[eJ] at h
   exact gM (ih ha (Gw.refl g)) (λs a w ha=>gM (ih hb w) (λs2 b w2 hb=>gM (ih hc (w.trans w2)) (λs3 c w3 hc q hq=>gu (DP w3.g _ (yaj ha (yan w2.n w3.n)) (yaj hb w3.n) hc) hq))) r h
  |keyN k he hD=>
   rw[eJ] at h
   exact gM (ih he (Gw.refl g)) (λs a w ha q hq=>gu (vC w.g _ ha _ hD) hq) r h
  |put k he hD hD2=>
   rw[eJ] at h
   exact gM (ih he (Gw.refl g)) (λs a w ha q hq=>gu (vD w.g _ ha _ _ hD) hq) r h
  |grad k x he=>
   rw[eJ] at h
   cases hv:fh st loc x with
   |error q=>rw[hv] at h;exact gu gn h
   |ok v=>
    rw[hv] at h
    have hx:=lO hm hl hv
    exact gM (ih he (Gw.refl g)) (λs a w ha q hq=>gu (Bg w.g _ ha (yaj hx w.n)) hq) r h
  |jvp k x he hd=>
   rw[eJ] at h
   cases hv:fh st loc x with
   |error q=>rw[hv] at h;exact gu gn h
   |ok v=>
    rw[hv] at h
    have hx:=lO hm hl hv
    exact gM (ih he (Gw.refl g)) (λs a w ha=>gM (ih hd w) (λs2 b w2 hb q hq=>gu (DQ w2.g _ (yaj ha w2.n) (yaj hx (yan w.n w2.n)) hb) hq)) r h
def Bh:List Tok->List Tok->Option Nat
 |_,[]=>none
 |seen,p::r=>if seen.any (λq=>q.text==p.text)=true then some p.pos else Bh (seen++[p]) r
def DR (ns:List Bdg)(s:List UInt8):Nat:=ns.findIdx λb=>b.nm==s
def LSt.setV (st:LSt)(i:Nat)(s:List UInt8)(v:Nat):LSt:={st with names:=st.names.set i (.val s v)}
def lr (f:Nat)(e:Ex)(i:Nat)(s:List UInt8):Nat->LSt->Option (Rs LSt)
 |0,st=>some (.ok st)
 |k+1,st=>match eJ f st [] e with
  |none=>none
  |some (.error q)=>some (.error q)
  |some (.ok (st1,v))=>lr f e i s k (st1.setV i s v)
def nh (s:List UInt8)(r:Rs (LSt×Nat)):Rs LSt:=match r with
 |.error q=>.error q
 |.ok (st,v)=>.ok {st with names:=st.names++[.val s v]}
def DU (r:Rs (LSt×Nat)):Rs LSt:=match r with
 |.error q=>.error q
 |.ok (st,v)=>.ok {st with outs:=st.outs++[(v:Int)]}
def inR (st:LSt)(n l:Tok):Rs LSt:=
 if gz l.text<1\/1000<gz l.text then .error (4,l.pos)
 else if 20<=st.ins.length then .error (5,n.pos)
 else nh n.text (fI {st with ins:=st.ins++[gz l.text]} (eI 0 (gz l.text) (st.ins.length:Int) 0 0) n.pos)
def Bi (st:LSt)(n:Tok)(ps:List Tok)(e:Ex):Rs LSt:=match Bh [] ps with
 |some p=>.error (3,p)
 |none=>.ok {st with names:=st.names++[.fn n.text ps e]}
def mh (st:LSt)(n:Tok)(r:Option (Rs LSt)):Option (Rs LSt):=match ie st.names n.text with
 |some _=>some (.error (3,n.pos))
 |none=>r
def gU (f:Nat)(st:LSt):Sm->Option (Rs LSt)
 |.outS k e=>if 50<=st.outs.length then some (.error (5,k.pos)) else (eJ f st [] e).map DU
 |.rep i n e=>match ie st.names n.text with
  |some (.val _ _)=>if 100<gz i.text then some (.error (5,i.pos)) else lr f e (DR st.names n.text) n.text (gz i.text).toNat st
  |_=>some (.error (3,n.pos))
 |.defS n ps e=>mh st n (some (Bi st n ps e))
 |.letS n e=>mh st n ((eJ f st [] e).map (nh n.text))
 |.inS n l=>mh st n (some (inR st n l))
def lP (f:Nat):LSt->List Sm->Option (Rs LSt)
 |st,[]=>some (.ok st)
 |st,s::ss=>match gU f st s with
  |none=>none
  |some (.error q)=>some (.error q)
  |some (.ok st1)=>lP f st1 ss
theorem uo (s:List UInt8):jl s≠gm/\jl s≠iT:=by
 unfold jl
 split
 ·rename_i h
  constructor
  ·rintro rfl;revert h;decide
  ·rintro rfl;revert h;decide
 ·exact⟨by decide,by decide⟩
theorem uq (x:UInt8):jb x≠gm/\jb x≠iT:=by
 unfold jb
 split
 ·exact⟨λh=>by have:=congrArg List.length h;simp[gm] at this,λh=>by have:=congrArg List.length h;simp[iT] at this⟩
 ·exact⟨by decide,by decide⟩
theorem wJ {t:List UInt8}{i:Nat}(hi:i<t.length)(h:(nxT t i).sym=gm):∀k,k<(nxT t i).text.length->48<=bt (nxT t i).text k/\bt (nxT t i).text k<=57:=by
 unfold nxT at h ⊢
 split at h
 ·exact absurd h (uo _).1
 ·split at h
  ·rename_i c1 c2
   rw[if_neg c1,if_pos c2]
   simp only at h ⊢
   unfold py at h
   split at h
   ·exact absurd h xab
   ·rename_i c3
    have e:oB t i=fN dig t i:=by unfold oB;rw[if_neg c3]
    rw[e]
    intro k hk
    rw[tD (jA dig t i xaa)] at hk
    rw[zU hk]
    exact px (tC i (i+k) xaa xaa)
  ·exact absurd h (uq _).1
theorem ur (t:List UInt8)(i:Nat):∀tk∈jr t i,tk.sym=gm->∀k,k<tk.text.length->48<=bt tk.text k/\bt tk.text k<=57:=by
 intro tk hm hs
 rw[jr] at hm
 split at hm
 ·rename_i h
  split at hm
  ·simp only[List.mem_singleton] at hm
   subst hm
   exact wJ h hs
  ·rcases List.mem_cons.1 hm with c|c
   ·subst c;exact wJ h hs
   ·exact ur t (skM t (nxE t i)) tk c hs
 ·cases hm
termination_by t.length-i
decreasing_by
 have:=pz ‹i<t.length›
 have:=mA t (nxE t i)
 omega
theorem GQ {l:List UInt8}(h:∀k,k<l.length->48<=bt l k/\bt l k<=57)(hn:i9 l):Dgs l:=by
 refine⟨?_,h⟩
 have hc:(gc l).countP dig=(gc l).length:=by
  rw[List.countP_eq_length]
  intro x hx
  unfold gc at hx
  obtain⟨b,hb,rfl⟩:=List.mem_map.1 hx
  obtain⟨k,hk,rfl⟩:=List.getElem_of_mem hb
  have:=h k hk
  unfold bt at this
  rw[yah,yal hk] at this
  simp only[Option.getD_some] at this
  simp[dig]
  omega
 have h2:=hn.2
 rw[hc] at h2
 unfold gc at h2
 rwa [List.length_map] at h2
def isN (tk:Tok):Prop:=tk.sym=gm\/tk.sym=iT
def Bj (x:List UInt8)(c:Int):Prop:=(¬rS (gc x)/\c=2)\/(rS (gc x)/\15<(gc x).countP dig/\c=5)
theorem ut {x:List UInt8}{c:Int}(h:RN (gc x) f c):(i9 x/\c=0)\/(Bj x c/\c≠0):=by
 rcases h with⟨h1,_,h2⟩|⟨h1,h2,_,h3⟩|⟨h1,h2,_,_,h3⟩
 ·exact .inr ⟨.inl ⟨h1,h2⟩,by omega⟩
 ·exact .inr ⟨.inr ⟨h1,h2,h3⟩,by omega⟩
 ·exact .inl ⟨⟨h1,h2⟩,h3⟩
def LSt.zero:LSt:=⟨[],[],[],[],0⟩
theorem DV:Gd LSt.zero:=⟨by decide,by decide,by decide,λv hv=>(by cases hv),by decide,by decide,by decide⟩
theorem DW:NmOK LSt.zero:=λb hb=>by cases hb
theorem x8 {s:Sm}{ss:List Sm}{r:Rs LSt}(h:lP f st (s::ss)=some r):∃r1,gU f st s=some r1/\(∀q,r1=.error q->r=.error q)/\(∀s1,r1=.ok s1->lP f s1 ss=some r):=by
 rw[lP] at h
 cases h1:gU f st s with
 |none=>rw[h1] at h;cases h
 |some r1=>
  rw[h1] at h
  refine⟨r1,rfl,λq e=>?_,λs1 e=>?_⟩
  ·subst e;cases h;rfl
  ·subst e;exact h
end
section
open Go.RowKit Flt
attribute [local go_sem] eD eB eA
variable {b1 b3 a2:Option Addr} {m1 e1 m3 e3 base cap vk:Nat} {vs:List Vl} {o ln va vb vc:Int} {R R':Option Nat} {c0 c1 c2 c3 c5 c6 c7 c8 c9 c10 c13 c14 c15 c16 c17 c18 c19:Value}
theorem Bk {w W:World}(HM:Hid (MS w W b1 m1 e1 b3 m3 e3 vs ⟨o,ln,va,vb,vc,vk⟩ base R R' a2 cap))(hbd:vs.length<=900000):PfC 19 W (MpR w b1 m1 e1 b3 m3 e3 vs ⟨o,ln,va,vb,vc,vk⟩ base R (eI 3 ln va vb 0)) c0 c1 c2 c3 (.pointer (some ⟨w.heap.size,0,none⟩)) c5 c6 c7 c8 c9 c10 (.pointer (some ⟨w.heap.size+1+1,0,none⟩)) (.int .i64 ln) c13 c14 c15 c16 c17 c18 c19 c9 c10:=by
 unfold PfC
 exact xbz
theorem sK {w W:World}{c11:Value}(HM:Hid (MS w W b1 m1 e1 b3 m3 e3 vs ⟨o,ln,va,vb,vc,vk⟩ base R R' a2 cap))(hbd:vs.length<=900000):PfC 24 W (MpR w b1 m1 e1 b3 m3 e3 vs ⟨o,ln,va,vb,vc,vk⟩ base R (eI 1 ln 0 0 0)) c0 c1 c2 c3 (.pointer (some ⟨w.heap.size,0,none⟩)) c5 c6 c7 c8 c9 c10 c11 (.int .i64 ln) c13 c14 c15 c16 c17 c18 c19 c9 c10:=by
 unfold PfC
 intros
 rename_i HK
 have HC:Hid (∀W1,Kept 0 0 W W1->_):=λW1 k=>MS.call HM.out k (eI 1 ln 0 0 0) xaa
 have s0:=HM.out.g.c0
 have s1:=HM.out.g.c1
 have s2:=HM.out.g.c2
 conv=>arg 2;whnf
 go_region_with (first
  |(go_at_call 24;refine yai (HC.out _ ((eC W).trans k1)) ?_;rintro e w2 ⟨g',cap',rfl,⟨u0,r0⟩,⟨u1,r1⟩,⟨u2,r2⟩,rf,_,hM2⟩;have rf0:=rf 0;have rf1:=rf 1;have rf2:=rf 2;clear rf)
  |(go_at_call 41;refine yai (lY _ _) ?_;rintro e w1 ⟨rfl,k1⟩;have p0:=(MS.keep HM.out ((eC W).trans k1)).g.c0;have p1:=(MS.keep HM.out ((eC W).trans k1)).g.c1;have p2:=(MS.keep HM.out ((eC W).trans k1)).g.c2))
 all_goals exact HK _ ⟨_,_,_,⟨rfl,by simp⟩,by simp,hM2⟩
variable {w:World} {b1 b3:Option Addr} {m1 e1 cap m3 e3 base g2 i j kk:Nat} {vs:List Vl} {ln va vb vc la d F:Int} {vk:Nat}
theorem DX (H:MvH w cap base g2 i vs ⟨7,ln,va,vb,vc,vk⟩):PtC w b1 b3 m1 e1 cap m3 e3 base g2 i vs 0 d ([eI 3 ln va vb 0,eI 1 ln 0 0 0,eI 8 ln ((vs.length:Nat):Int) d (((vs.length:Nat):Int)+1)],(((vs.length:Nat):Int)+2)) true:=by
 obtain⟨⟨v0,v1,v2,v3,v4,v5⟩,j0,j1,hg2,wB,hB,hn,HM,HO⟩:=H.op b1 b3 m1 e1 m3 e3
 clear H
 unfold PtC
 go_enter func150,ntmps150
 go_wp2_with fail
 rw[hB.out]
 clear v0 v1 v2 v3 v4 v5 hB
 refine fg (Bk HM xaa ?_)
 clear HM
 unfold PfK
 intros
 rename_i wc hR
 obtain⟨vs1,g',cap',HV1,hL1,HM⟩:=hR
 obtain⟨_,_,s0,s1,s2,_,_,_,_⟩:=HM.out.g
 go_wp2_with fail
 refine(MS.lst HM.out xaa (show(vs1.length:Int)-1=((vs.length:Nat):Int) by have:=HV1.out.2;omega)).mono ?_
 clear HM s0 s1 s2
 rintro e wl ⟨rfl,HM⟩
 go_wp2_with fail
 refine fg (sK HM xaa ?_)
 clear HM
 unfold PfK
 intros
 rename_i wc hR
 obtain⟨vs2,g',cap',HV2,hL2,HM⟩:=hR
 obtain⟨_,_,s0,s1,s2,_,_,_,_⟩:=HM.out.g
 go_wp2_with fail
 refine(MS.lst HM.out xaa (show(vs2.length:Int)-1=(((vs.length:Nat):Int)+1) by have:=HV1.out.2;have:=HV2.out.2;omega)).mono ?_
 clear HM s0 s1 s2
 rintro e wl ⟨rfl,HM⟩
 go_wp2_with fail
 refine fg (Au HM xaa ?_)
 exact no_implicit_lambda% xbn
variable {w:World} {b1 b3:Option Addr} {m1 e1 cap m3 e3 base g2 i j kk:Nat} {vs:List Vl} {ln va vb vc la d F:Int} {vk:Nat}
theorem DY (H:MvH w cap base g2 i vs ⟨7,ln,va,vb,vc,vk⟩):PtC w b1 b3 m1 e1 cap m3 e3 base g2 i vs 1 d ([eI 3 ln va vb 0,eI 1 ln 0 0 0,eI 8 ln ((vs.length:Nat):Int) (((vs.length:Nat):Int)+1) d],(((vs.length:Nat):Int)+2)) true:=by
 obtain⟨⟨v0,v1,v2,v3,v4,v5⟩,j0,j1,hg2,wB,hB,hn,HM,HO⟩:=H.op b1 b3 m1 e1 m3 e3
 clear H
 unfold PtC
 go_enter func150,ntmps150
 go_wp2_with fail
 rw[hB.out]
 clear v0 v1 v2 v3 v4 v5 hB
 refine fg (Bk HM xaa ?_)
 clear HM
 unfold PfK
 intros
 rename_i wc hR
 obtain⟨vs1,g',cap',HV1,hL1,HM⟩:=hR
 obtain⟨_,_,s0,s1,s2,_,_,_,_⟩:=HM.out.g
 go_wp2_with fail
 refine(MS.lst HM.out xaa (show(vs1.length:Int)-1=((vs.length:Nat):Int) by have:=HV1.out.2;omega)).mono ?_
 clear HM s0 s1 s2
 rintro e wl ⟨rfl,HM⟩
 go_wp2_with fail
 refine fg (sK HM xaa ?_)
 clear HM
 unfold PfK
 intros
 rename_i wc hR
 obtain⟨vs2,g',cap',HV2,hL2,HM⟩:=hR
 obtain⟨_,_,s0,s1,s2,_,_,_,_⟩:=HM.out.g
 go_wp2_with fail
 refine(MS.lst HM.out xaa (show(vs2.length:Int)-1=(((vs.length:Nat):Int)+1) by have:=HV1.out.2;have:=HV2.out.2;omega)).mono ?_
 clear HM s0 s1 s2
 rintro e wl ⟨rfl,HM⟩
 go_wp2_with fail
 refine fg (Av HM xaa ?_)
 exact no_implicit_lambda% xbn
variable {w:World} {b1 b3:Option Addr} {m1 e1 cap m3 e3 base g2 i j kk:Nat} {vs:List Vl} {ln va vb vc la d F:Int} {vk:Nat}
theorem DZ (H:MvH w cap base g2 i vs ⟨8,ln,va,vb,vc,vk⟩):PtC w b1 b3 m1 e1 cap m3 e3 base g2 i vs 1 d ([eI 1 ln 0 0 0,eI 8 ln va d ((vs.length:Nat):Int)],(((vs.length:Nat):Int)+1)) true:=by
 obtain⟨⟨v0,v1,v2,v3,v4,v5⟩,j0,j1,hg2,wB,hB,hn,HM,HO⟩:=H.op b1 b3 m1 e1 m3 e3
 clear H
 unfold PtC
 go_enter func150,ntmps150
 go_wp2_with fail
 rw[hB.out]
 clear v0 v1 v2 v3 v4 v5 hB
 refine fg (sK HM xaa ?_)
 clear HM
 unfold PfK
 intros
 rename_i wc hR
 obtain⟨vs1,g',cap',HV1,hL1,HM⟩:=hR
 obtain⟨_,_,s0,s1,s2,_,_,_,_⟩:=HM.out.g
 go_wp2_with fail
 refine(MS.lst HM.out xaa (show(vs1.length:Int)-1=((vs.length:Nat):Int) by have:=HV1.out.2;omega)).mono ?_
 clear HM s0 s1 s2
 rintro e wl ⟨rfl,HM⟩
 go_wp2_with fail
 refine fg (Au HM xaa ?_)
 exact no_implicit_lambda% xdd
variable {w:World} {b1 b3:Option Addr} {m1 e1 cap m3 e3 base g2 i j kk:Nat} {vs:List Vl} {ln va vb vc la d F:Int} {vk:Nat}
theorem D0 (H:MvH w cap base g2 i vs ⟨8,ln,va,vb,vc,vk⟩):PtC w b1 b3 m1 e1 cap m3 e3 base g2 i vs 2 d ([eI 1 ln 0 0 0,eI 8 ln va ((vs.length:Nat):Int) d],(((vs.length:Nat):Int)+1)) true:=by
 obtain⟨⟨v0,v1,v2,v3,v4,v5⟩,j0,j1,hg2,wB,hB,hn,HM,HO⟩:=H.op b1 b3 m1 e1 m3 e3
 clear H
 unfold PtC
 go_enter func150,ntmps150
 go_wp2_with fail
 rw[hB.out]
 clear v0 v1 v2 v3 v4 v5 hB
 refine fg (sK HM xaa ?_)
 clear HM
 unfold PfK
 intros
 rename_i wc hR
 obtain⟨vs1,g',cap',HV1,hL1,HM⟩:=hR
 obtain⟨_,_,s0,s1,s2,_,_,_,_⟩:=HM.out.g
 go_wp2_with fail
 refine(MS.lst HM.out xaa (show(vs1.length:Int)-1=((vs.length:Nat):Int) by have:=HV1.out.2;omega)).mono ?_
 clear HM s0 s1 s2
 rintro e wl ⟨rfl,HM⟩
 go_wp2_with fail
 refine fg (Av HM xaa ?_)
 exact no_implicit_lambda% xdd
end
section
open Go.RowKit Flt
variable {st s:LSt} {r:Rs (LSt×Nat)}
def CM (st:LSt)(r:Rs (LSt×Nat)):Prop:=∀s x,r=.ok (s,x)->st.calls<=s.calls
theorem CM.err {q:Aq}:CM st (.error q):=λs x h=>by cases h
theorem CM.back {a b:LSt}(h:a.calls<=b.calls)(k:CM b r):CM a r:=λs x e=>yan h (k s x e)
theorem jq (st:LSt)(v:Vl)(p:Nat):CM st (fI st v p):=λs x h=>by
 unfold fI at h
 split at h
 ·cases h
 ·cases h;exact yad
theorem sM (n:Int)(p:Nat):∀(xs:List Nat) (st s:LSt) (js:List Nat),gS n p st xs=.ok (s,js)->st.calls<=s.calls
 |[],st,s,js,h=>by rw[gS] at h;cases h;exact yad
 |i::r,st,s,js,h=>by
  rw[gS] at h
  split at h
  ·cases hp:fI st (eI 10 n (i:Int) 0 0) p with
   |error q=>rw[hp] at h;cases h
   |ok y=>
    obtain⟨s1,j⟩:=y
    rw[hp] at h
    simp only at h
    cases hf:gS n p s1 r with
    |error q=>rw[hf] at h;cases h
    |ok y=>
     obtain⟨s2,js2⟩:=y
     rw[hf] at h
     cases h
     exact yan (jq st _ p s1 j hp) (sM n p r s1 _ js2 hf)
  ·cases hf:gS n p st r with
   |error q=>rw[hf] at h;cases h
   |ok y=>
    obtain⟨s2,js2⟩:=y
    rw[hf] at h
    cases h
    exact sM n p r st _ js2 hf
theorem sN {xs js:List Nat}{p:Nat}(h:iY st xs p=.ok (s,js)):st.calls<=s.calls:=by
 unfold iY at h
 split at h
 ·exact sM _ p xs st s js h
 ·cases h
theorem nZ (st:LSt)(m:List Vl×Int)(p:Nat):CM st (gZ st m p):=λs x h=>by
 unfold gZ at h
 split at h
 ·cases h
 ·cases h;exact yad
theorem GR (st:LSt)(o:Tok)(a b:Nat):CM st (m6 st o a b):=by
 unfold m6
 cases hf:iY st [a,b] o.pos with
 |error q=>exact .err
 |ok y=>exact CM.back (sN hf) (jq _ _ _)
theorem D4 (st:LSt)(k:Tok)(a b:Nat):CM st (m7 st k a b):=by
 unfold m7
 cases hf:iY st [a,b] k.pos with
 |error q=>exact .err
 |ok y=>
  simp only
  split
  ·exact CM.back (sN hf) (jq _ _ _)
  ·cases hp:fI y.1 (eI 4 (eU y.1 (y.2.getD 0 0)) (y.2.getD 0 0:Nat) (y.2.getD 1 0:Nat) 0) k.pos with
   |error q=>exact .err
   |ok z=>exact CM.back (yan (sN hf) (jq _ _ _ z.1 z.2 hp)) (jq _ _ _)
theorem GT (st:LSt)(k:Tok)(a b c:Nat):CM st (se st k a b c):=by
 unfold se
 cases hf:iY st [a,b,c] k.pos with
 |error q=>exact .err
 |ok y=>exact CM.back (sN hf) (jq _ _ _)
theorem x9 (st:LSt)(k:Tok)(a:Nat)(n:Tok):CM st (jS st k a n):=by
 unfold jS
 split
 ·split
  ·exact .err
  ·exact jq _ _ _
 ·split
  ·exact .err
  ·split
   ·exact .err
   ·exact jq _ _ _
theorem ya (st:LSt)(k:Tok)(a:Nat)(i n:Tok):CM st (jT st k a i n):=by
 unfold jT
 split
 ·exact .err
 ·split
  ·exact .err
  ·split
   ·exact .err
   ·exact jq _ _ _
theorem Ea (st:LSt)(k:Tok)(a x:Nat):CM st (mq st k a x):=by
 unfold mq
 split
 ·exact .err
 ·exact nZ _ _ _
theorem GU (st:LSt)(k:Tok)(a x d:Nat):CM st (mD st k a x d):=by
 unfold mD
 split
 ·cases hp:fI st (eI 10 (eU st x) (d:Int) 0 0) k.pos with
  |error q=>exact .err
  |ok y=>exact CM.back (jq _ _ _ y.1 y.2 hp) (nZ _ _ _)
 ·split
  ·exact .err
  ·exact nZ _ _ _
theorem iF {a:Option (Rs (LSt×Nat))}{p:LSt->Nat->Option (Rs (LSt×Nat))}(h1:∀r,a=some r->CM st r)(h2:∀s x,∀r,p s x=some r->CM s r):∀r,iK a p=some r->CM st r:=λr h=>by
 cases ha:a with
 |none=>rw[ha] at h;cases h
 |some r1=>
  rw[ha] at h
  rcases r1 with q|⟨s,x⟩
  ·cases h;exact .err
  ·exact CM.back (h1 _ ha s x rfl) (h2 s x r h)
theorem sO {p:LSt->Ex->Option (Rs (LSt×Nat))}(hp:∀s e r,p s e=some r->CM s r):∀(es:List Ex) (st s:LSt) (xs:List Nat),fF p st es=some (.ok (s,xs))->st.calls<=s.calls
 |[],st,s,xs,h=>by rw[fF] at h;cases h;exact yad
 |e::es,st,s,xs,h=>by
  rw[fF] at h
  cases h1:p st e with
  |none=>rw[h1] at h;cases h
  |some r1=>
   rw[h1] at h
   rcases r1 with q1|⟨s1,x⟩
   ·cases h
   ·simp only at h
    cases h2:fF p s1 es with
    |none=>rw[h2] at h;cases h
    |some r2=>
     rw[h2] at h
     rcases r2 with q2|⟨s2,ys⟩
     ·cases h
     ·cases h
      exact yan (hp st e _ h1 s1 x rfl) (sO hp es s1 s ys h2)
theorem oS:∀(f:Nat) (st:LSt) (loc:Loc) (e:Ex) (r:Rs (LSt×Nat)),eJ f st loc e=some r->CM st r
 |0,st,loc,e,r,h=>by rw[eJ] at h;cases h
 |f+1,st,loc,e,r,h=>by
  have ih:∀st loc e r,eJ f st loc e=some r->CM st r:=λst loc e r h=>oS f st loc e r h
  have sm:∀{st:LSt} {a r:Rs (LSt×Nat)},CM st a->some a=some r->CM st r:=λh e=>by cases e;exact h
  cases e with
  |num t=>rw[eJ] at h;exact sm (jq _ _ _) h
  |name t=>
   rw[eJ] at h
   cases hv:fh st loc t with
   |error q=>rw[hv] at h;exact sm .err h
   |ok v=>rw[hv] at h;exact sm (λs x e=>by cases e;exact yad) h
  |neg o a=>rw[eJ] at h;exact iF (λr h=>ih _ _ _ r h) (λs x r h=>sm (jq _ _ _) h) r h
  |bin o a b=>rw[eJ] at h;exact iF (λr h=>ih _ _ _ r h) (λs x r h=>iF (λr h=>ih _ _ _ r h) (λs x r h=>sm (GR _ _ _ _) h) r h) r h
  |call t es=>
   rw[eJ] at h
   cases hf:ie st.names t.text with
   |none=>rw[hf] at h;exact sm .err h
   |some b=>
    rw[hf] at h
    cases b with
    |val _ _=>exact sm .err h
    |fn nm ps body=>
     simp only at h
     by_cases c:ps.length=es.length
     ·rw[if_pos c] at h
      cases ha:fF (λs e=>eJ f s loc e) st es with
      |none=>rw[ha] at h;cases h
      |some q=>
       rw[ha] at h
       rcases q with q|⟨s1,xs⟩
       ·exact sm .err h
       ·have hc:=sO (λs e r h=>ih s loc e r h) es st s1 xs ha
        simp only at h
        by_cases d:500<=s1.calls
        ·rw[if_pos d] at h;exact sm .err h
        ·rw[if_neg d] at h
         exact CM.back (by show st.calls<=s1.calls+1;omega) (ih _ _ _ r h)
     ·rw[if_neg c] at h;exact sm .err h
  |key1 k a=>
   rw[eJ] at h
   refine iF (λr h=>ih _ _ _ r h) (λs x r h=>sm ?_ h) r h
   split
   ·exact jq _ _ _
   ·exact jq _ _ _
  |key2 k a b=>rw[eJ] at h;exact iF (λr h=>ih _ _ _ r h) (λs x r h=>iF (λr h=>ih _ _ _ r h) (λs x r h=>sm (D4 _ _ _ _) h) r h) r h
  |key3 k a b c=>rw[eJ] at h;exact iF (λr h=>ih _ _ _ r h) (λs x r h=>iF (λr h=>ih _ _ _ r h) (λs x r h=>iF (λr h=>ih _ _ _ r h) (λs x r h=>sm (GT _ _ _ _ _) h) r h) r h) r h
  |keyN k a n=>rw[eJ] at h;exact iF (λr h=>ih _ _ _ r h) (λs x r h=>sm (x9 _ _ _ _) h) r h
  |put k a i n=>rw[eJ] at h;exact iF (λr h=>ih _ _ _ r h) (λs x r h=>sm (ya _ _ _ _ _) h) r h
  |grad k a x=>
   rw[eJ] at h
   cases hv:fh st loc x with
   |error q=>rw[hv] at h;exact sm .err h
   |ok v=>rw[hv] at h;exact iF (λr h=>ih _ _ _ r h) (λs x r h=>sm (Ea _ _ _ _) h) r h
  |jvp k a x d=>
   rw[eJ] at h
   cases hv:fh st loc x with
   |error q=>rw[hv] at h;exact sm .err h
   |ok v=>rw[hv] at h;exact iF (λr h=>ih _ _ _ r h) (λs x r h=>iF (λr h=>ih _ _ _ r h) (λs x r h=>sm (GU _ _ _ _ _) h) r h) r h
def EvT {α:Type}(E:Nat->Option (Rs α)):Prop:=∃r f,∀g,f<=g->E g=some r
theorem EvT.const {α:Type}(r:Rs α):EvT (λ_=>some r):=⟨r,0,λ_ _=>rfl⟩
theorem EvT.succ {α:Type}{E F:Nat->Option (Rs α)}(h:∀g,E (g+1)=F g)(k:EvT F):EvT E:=by
 obtain⟨r,f,k⟩:=k
 refine⟨r,f+1,λg hg=>?_⟩
 obtain⟨g',rfl⟩:∃g',g=g'+1:=⟨g-1,by omega⟩
 rw[h]
 exact k g' xaa
theorem EvT.then {A:Nat->Option (Rs (LSt×Nat))}{p:Nat->LSt->Nat->Option (Rs (LSt×Nat))}(h1:EvT A)(h2:∀f s x,A f=some (.ok (s,x))->EvT (λg=>p g s x)):EvT (λg=>iK (A g) (p g)):=by
 obtain⟨r1,f1,k1⟩:=h1
 rcases r1 with q|⟨s,x⟩
 ·exact⟨.error q,f1,λg hg=>by dsimp only;rw[k1 g hg];rfl⟩
 ·obtain⟨r2,f2,k2⟩:=h2 f1 s x (k1 f1 yad)
  exact⟨r2,max f1 f2,λg hg=>by dsimp only;rw[k1 g xaa];exact k2 g xaa⟩
theorem uu {p:Nat->LSt->Ex->Option (Rs (LSt×Nat))}(hp:∀g s e r,p g s e=some r->CM s r):∀(es:List Ex) (st:LSt),(∀e∈es,∀s,st.calls<=s.calls->EvT (λg=>p g s e))->EvT (λg=>fF (p g) st es)
 |[],st,_=>⟨.ok (st,[]),0,λg _=>by dsimp only;rw[fF]⟩
 |e::es,st,h=>by
  obtain⟨r1,f1,k1⟩:=h e xac st yad
  dsimp only at k1
  rcases r1 with q|⟨s,x⟩
  ·exact⟨.error q,f1,λg hg=>by dsimp only;rw[fF,k1 g hg]⟩
  ·have hs:=hp f1 st e _ (k1 f1 yad) s x rfl
   obtain⟨r2,f2,k2⟩:=uu hp es s (λe he s' h'=>h e (by simp[he]) s' (yan hs h'))
   dsimp only at k2
   rcases r2 with q|⟨s2,xs⟩
   ·exact⟨.error q,max f1 f2,λg hg=>by dsimp only;rw[fF,k1 g xaa];simp only;rw[k2 g xaa]⟩
   ·exact⟨.ok (s2,x::xs),max f1 f2,λg hg=>by dsimp only;rw[fF,k1 g xaa];simp only;rw[k2 g xaa]⟩
theorem pV:∀(k n:Nat) (e:Ex),SizeOf.sizeOf e<=n->∀(st:LSt) (loc:Loc),501-st.calls<=k->EvT (λg=>eJ g st loc e)
 |k,0,e,hn,st,loc,hk=>by cases e<;>simp at hn
 |k,n+1,e,hn,st,loc,hk=>by
  have sub:∀(a:Ex),SizeOf.sizeOf a<=n->∀s,st.calls<=s.calls->EvT (λg=>eJ g s loc a):=λa ha s hs=>pV k n a ha s loc xaa
  have cl:∀{g:Nat} {a:Ex} {s s':LSt} {x:Nat},eJ g s loc a=some (.ok (s',x))->s.calls<=s'.calls:=λh=>oS _ _ _ _ _ h _ _ rfl
  cases e with
  |num t=>exact .succ (λg=>by rw[eJ]) (.const _)
  |name t=>exact .succ (λg=>by rw[eJ]) (.const _)
  |neg o a=>exact .succ (λg=>by rw[eJ]) (.then (sub a (by simp at hn;omega) st yad) (λf s x h=>.const _))
  |bin o a b=>exact .succ (λg=>by rw[eJ]) (.then (sub a (by simp at hn;omega) st yad) (λf s x h=>.then (sub b (by simp at hn;omega) s (cl h)) (λf s x h=>.const _)))
  |call t es=>
   refine .succ (λg=>by rw[eJ]) ?_
   cases hf:ie st.names t.text with
   |none=>exact .const _
   |some b=>
    cases b with
    |val _ _=>exact .const _
    |fn nm ps body=>
     simp only
     by_cases c:ps.length=es.length
     ·simp only[if_pos c]
      obtain⟨R,f1,k1⟩:=uu (p:=λg s e=>eJ g s loc e) (λg s e r h=>oS g s loc e r h) es st (λe he s hs=>sub e (by have:=List.sizeOf_lt_of_mem he;simp at hn;omega) s hs)
      dsimp only at k1
      rcases R with q|⟨s1,xs⟩
      ·exact⟨.error q,f1,λg hg=>by dsimp only;rw[k1 g hg]⟩
      ·have hs:=sO (p:=λs e=>eJ f1 s loc e) (λs e r h=>oS f1 s loc e r h) es st s1 xs (k1 f1 yad)
       by_cases d:500<=s1.calls
       ·exact⟨.error (5,t.pos),f1,λg hg=>by dsimp only;rw[k1 g hg];simp only;rw[if_pos d]⟩
       ·match k,hk with
        |0,hk=>omega
        |k+1,hk=>
         obtain⟨r2,f2,k2⟩:=pV k (SizeOf.sizeOf body) body yad {s1 with calls:=s1.calls+1} ((ps.map (·.text)).zip xs) (by show 501-(s1.calls+1)<=k;omega)
         dsimp only at k2
         exact⟨r2,max f1 f2,λg hg=>by dsimp only;rw[k1 g xaa];simp only;rw[if_neg d];exact k2 g xaa⟩
     ·simp only[if_neg c];exact .const _
  |key1 k' a=>exact .succ (λg=>by rw[eJ]) (.then (sub a (by simp at hn;omega) st yad) (λf s x h=>.const _))
  |key2 k' a b=>exact .succ (λg=>by rw[eJ]) (.then (sub a (by simp at hn;omega) st yad) (λf s x h=>.then (sub b (by simp at hn;omega) s (cl h)) (λf s x h=>.const _)))
  |key3 k' a b c=>exact .succ (λg=>by rw[eJ]) (.then (sub a (by simp at hn;omega) st yad) (λf s x h=>.then (sub b (by simp at hn;omega) s (cl h)) (λf s2 x h2=>.then (sub c (by simp at hn;omega) s2 (yan (cl h) (cl h2))) (λf s x h=>.const _))))
  |keyN k' a m=>exact .succ (λg=>by rw[eJ]) (.then (sub a (by simp at hn;omega) st yad) (λf s x h=>.const _))
  |put k' a i m=>exact .succ (λg=>by rw[eJ]) (.then (sub a (by simp at hn;omega) st yad) (λf s x h=>.const _))
  |grad k' a x=>
   refine .succ (λg=>by rw[eJ]) ?_
   cases fh st loc x with
   |error q=>exact .const _
   |ok v=>exact .then (sub a (by simp at hn;omega) st yad) (λf s x h=>.const _)
  |jvp k' a x d=>
   refine .succ (λg=>by rw[eJ]) ?_
   cases fh st loc x with
   |error q=>exact .const _
   |ok v=>exact .then (sub a (by simp at hn;omega) st yad) (λf s x h=>.then (sub d (by simp at hn;omega) s (cl h)) (λf s x h=>.const _))
termination_by k n=>(k,n)
theorem pW (st:LSt)(loc:Loc)(e:Ex):EvT (λg=>eJ g st loc e):=pV _ _ e yad st loc yad
theorem wK (e:Ex)(i:Nat)(s:List UInt8):∀(k:Nat) (st:LSt),EvT (λg=>lr g e i s k st)
 |0,st=>⟨.ok st,0,λg _=>by dsimp only;rw[lr]⟩
 |k+1,st=>by
  obtain⟨r1,f1,k1⟩:=pW st [] e
  dsimp only at k1
  rcases r1 with q|⟨s1,v⟩
  ·exact⟨.error q,f1,λg hg=>by dsimp only;rw[lr,k1 g hg]⟩
  ·obtain⟨r2,f2,k2⟩:=wK e i s k (s1.setV i s v)
   exact⟨r2,max f1 f2,λg hg=>by dsimp only;rw[lr,k1 g xaa];exact k2 g xaa⟩
theorem Bl (st:LSt)(s:Sm):EvT (λg=>gU g st s):=by
 cases s with
 |outS k e=>
  simp only[gU]
  by_cases c:50<=st.outs.length
  ·simp only[if_pos c];exact .const _
  ·simp only[if_neg c]
   obtain⟨r,f,h⟩:=pW st [] e
   dsimp only at h
   exact⟨DU r,f,λg hg=>by dsimp only;rw[h g hg];rfl⟩
 |rep i n e=>
  simp only[gU]
  cases ie st.names n.text with
  |none=>exact .const _
  |some b=>
   cases b with
   |fn _ _ _=>exact .const _
   |val _ _=>
    simp only
    by_cases c:100<gz i.text
    ·simp only[if_pos c];exact .const _
    ·simp only[if_neg c];exact wK _ _ _ _ _
 |defS n ps e=>simp only[gU,mh];cases ie st.names n.text<;>exact .const _
 |inS n l=>simp only[gU,mh];cases ie st.names n.text<;>exact .const _
 |letS n e=>
  simp only[gU,mh]
  cases ie st.names n.text with
  |some _=>exact .const _
  |none=>
   obtain⟨r,f,h⟩:=pW st [] e
   dsimp only at h
   exact⟨nh n.text r,f,λg hg=>by dsimp only;rw[h g hg];rfl⟩
theorem uv:∀(ss:List Sm) (st:LSt),EvT (λg=>lP g st ss)
 |[],st=>⟨.ok st,0,λg _=>by dsimp only;rw[lP]⟩
 |s::ss,st=>by
  obtain⟨r1,f1,k1⟩:=Bl st s
  dsimp only at k1
  rcases r1 with q|s1
  ·exact⟨.error q,f1,λg hg=>by dsimp only;rw[lP,k1 g hg]⟩
  ·obtain⟨r2,f2,k2⟩:=uv ss s1
   exact⟨r2,max f1 f2,λg hg=>by dsimp only;rw[lP,k1 g xaa];exact k2 g xaa⟩
theorem wL {ins:List Int}{vs:List Vl}{i:Nat}(k:Int)(h:okV ins vs i=true):okV (ins++[k]) vs i=true:=by
 unfold okV at h ⊢
 by_cases c:(vs.getD i Vl.zero).op=0
 ·rw[if_pos c] at h ⊢
  simp only[Bool.and_eq_true] at h ⊢
  obtain⟨h1,h2,h3⟩:=h
  unfold fC at h2 ⊢
  have h2':=of_decide_eq_true h2
  refine⟨h1,decide_eq_true ⟨h2'.1,by rw[yak];simp only[List.length_singleton];omega⟩,?_⟩
  rw[yah (l:=ins++[k]),yas xaa,<-yah]
  exact h3
 ·rw[if_neg c] at h ⊢
  exact h
theorem Eb (ins:List Int)(vs:List Vl){k:Int}(hk:1<=k/\k<=1000):okV (ins++[k]) (vs++[eI 0 k (ins.length:Int) 0 0]) vs.length=true:=by
 have hv:(vs++[eI 0 k (ins.length:Int) 0 0]).getD vs.length Vl.zero=eI 0 k (ins.length:Int) 0 0:=by
  exact xdn
 unfold okV
 rw[hv,if_pos (show(eI 0 k (ins.length:Int) 0 0).op=0 from rfl)]
 simp only[Bool.and_eq_true]
 refine⟨⟨?_,?_⟩,?_,?_⟩
 ·show lenB k=true
  unfold lenB
  exact decide_eq_true hk
 ·simp[f9,cnt,io]
 ·show fC (ins.length:Int) _=true
  unfold fC
  exact decide_eq_true ⟨by omega,by rw[yak];simp only[List.length_singleton];omega⟩
 ·show(k==(ins++[k]).getD ((ins.length:Int)).toNat 0)=true
  rw[Int.toNat_natCast,yah,yar yad,Nat.sub_self]
  simp
theorem E7 (g:Gd st)(k:Int)(h:st.ins.length<20):Gd {st with ins:=st.ins++[k]}:=
 ⟨g.n,g.c,List.all_eq_true.2 (λi hi=>wL k (List.all_eq_true.1 g.ok i hi)),g.k,by show(st.ins++[k]).length<=20;rw[yak];simp only[List.length_singleton];omega,g.o,g.m⟩
theorem E8 (g:Gd st){k:Int}(hk:1<=k/\k<=1000):GVal (st.ins++[k]) (st.vs++[eI 0 k (st.ins.length:Int) 0 0]):=by
 refine⟨λi hi=>?_,pM g.k (by show(0:Nat)<_;decide)⟩
 rw[yak,List.length_singleton] at hi
 by_cases c:i<st.vs.length
 ·exact oH c (wL k (g.v.1 i c))
 ·obtain rfl:i=st.vs.length:=xaa
  exact Eb st.ins st.vs hk
def IK:Sm->Prop
 |.inS _ l=>Dgs l.text
 |.letS _ e=>EOK e
 |.rep i _ e=>Dgs i.text/\EOK e
 |.defS _ _ e=>EOK e
 |.outS _ e=>EOK e
structure Sg (a b:LSt):Prop where
 g:Gd b
 nm:NmOK b
 n:a.vs.length<=b.vs.length
 m:b.names.length<=a.names.length+1
theorem wM (h:NmOK st){b:Bdg}(hb:BOK st.vs.length b):NmOK {st with names:=st.names++[b]}:=λx hx=>by
 rcases List.mem_append.1 (show x∈st.names++[b] from hx) with c|c
 ·exact h x c
 ·simp only[List.mem_singleton] at c;subst c;exact hb
theorem wN (g:Gd st)(b:Bdg)(h:st.names.length<5000):Gd {st with names:=st.names++[b]}:=
 ⟨g.n,g.c,g.ok,g.k,g.i,g.o,by show(st.names++[b]).length<=5000;rw[yak];simp only[List.length_singleton];omega⟩
theorem GV (g:Gd st)(v:Int)(h:st.outs.length<50):Gd {st with outs:=st.outs++[v]}:=
 ⟨g.n,g.c,g.ok,g.k,g.i,by show(st.outs++[v]).length<=50;rw[yak];simp only[List.length_singleton];omega,g.m⟩
theorem qX {st0:LSt}{t:List UInt8}(hm:st.names.length=st0.names.length)(hn:st0.vs.length<=st.vs.length)(nm:NmOK st)(h5:st0.names.length<5000)(hr:RsG st r)(h:nh t r=.ok s):Sg st0 s:=by
 rcases r with q|⟨s1,v⟩
 ·cases h
 ·cases h
  obtain⟨w,hv⟩:=hr s1 v rfl
  exact⟨wN w.g _ (by rw[w.m,hm];exact h5),wM (nm.gw w) hv,yan hn w.n,by show(s1.names++[_]).length<=_;rw[yak,w.m,hm];simp⟩
theorem uw {f:Nat}{e:Ex}(he:EOK e)(i:Nat)(s:List UInt8):∀(k:Nat) (st s':LSt),Gd st->NmOK st->lr f e i s k st=some (.ok s')->Gd s'/\NmOK s'/\st.vs.length<=s'.vs.length/\s'.names.length=st.names.length
 |0,st,s',g,nm,h=>by rw[lr] at h;cases h;exact⟨g,nm,yad,rfl⟩
 |k+1,st,s',g,nm,h=>by
  rw[lr] at h
  cases h1:eJ f st [] e with
  |none=>rw[h1] at h;cases h
  |some r1=>
   rw[h1] at h
   rcases r1 with q|⟨s1,v⟩
   ·cases h
   ·obtain⟨w,hv⟩:=fW f st [] e g nm (λb hb=>by cases hb) he _ h1 s1 v rfl
    have g2:Gd (s1.setV i s v):=⟨w.g.n,w.g.c,w.g.ok,w.g.k,w.g.i,w.g.o,by show(s1.names.set i _).length<=5000;rw[List.length_set];exact w.g.m⟩
    have n2:NmOK (s1.setV i s v):=λb hb=>by
     rcases List.mem_or_eq_of_mem_set (show b∈s1.names.set i (.val s v) from hb) with c|c
     ·exact nm.gw w b c
     ·subst c;exact hv
    obtain⟨k1,k2,k3,k4⟩:=uw he i s k (s1.setV i s v) s' g2 n2 h
    exact⟨k1,k2,yan w.n k3,by rw[k4];show(s1.names.set i _).length=_;rw[List.length_set,w.m]⟩
theorem yb {f:Nat}{s':LSt}{s:Sm}(g:Gd st)(nm:NmOK st)(h5:st.names.length<5000)(hs:IK s)(h:gU f st s=some (.ok s')):Sg st s':=by
 cases s with
 |outS k e=>
  simp only[gU] at h
  by_cases c:50<=st.outs.length
  ·rw[if_pos c] at h;cases h
  ·rw[if_neg c] at h
   cases h1:eJ f st [] e with
   |none=>rw[h1] at h;cases h
   |some r1=>
    rw[h1] at h
    rcases r1 with q|⟨s1,v⟩
    ·cases h
    ·obtain⟨w,hv⟩:=fW f st [] e g nm (λb hb=>by cases hb) hs _ h1 s1 v rfl
     cases h
     exact⟨GV w.g _ (by rw[w.o];omega),(λb hb=>nm.gw w b hb),w.n,by show s1.names.length<=_;rw[w.m];omega⟩
 |rep i n e=>
  simp only[gU] at h
  split at h
  ·split at h
   ·cases h
   ·obtain⟨k1,k2,k3,k4⟩:=uw hs.2 _ _ _ st s' g nm h
    exact⟨k1,k2,k3,by omega⟩
  ·cases h
 |defS n ps e=>
  simp only[gU,mh] at h
  split at h
  ·cases h
  ·simp only[Bi] at h
   split at h
   ·cases h
   ·cases h
    exact⟨wN g _ h5,wM nm hs,yad,by show(st.names++[_]).length<=_;rw[yak];simp⟩
 |letS n e=>
  simp only[gU,mh] at h
  split at h
  ·cases h
  ·cases h1:eJ f st [] e with
   |none=>rw[h1] at h;cases h
   |some r1=>
    rw[h1] at h
    exact qX rfl yad nm h5 (fW f st [] e g nm (λb hb=>by cases hb) hs _ h1) (Option.some.inj h)
 |inS n l=>
  simp only[gU,mh] at h
  split at h
  ·cases h
  ·simp only[inR] at h
   split at h
   ·cases h
   ·split at h
    ·cases h
    ·rename_i c1 c2
     have hk:1<=gz l.text/\gz l.text<=1000:=xaa
     exact qX (st:={st with ins:=st.ins++[gz l.text]}) rfl yad nm h5 (jc (E7 g _ xaa) (E8 g hk) _) (Option.some.inj h)
end
section
open Go.RowKit Flt
attribute [local go_sem] eD eB eA
theorem Ec {W:World}{P:Nat}(h5:W.cell? ⟨P,5,none⟩=some (.int .i64 0))(h6:W.cell? ⟨P,6,none⟩=some (.int .i64 0))(fr:∀o,W.frozen? ⟨P,o,none⟩=false)(c:Int)(p:Nat)(M:Nat->Prop)(hM:M P):
  Calls prog 74 #[.pointer (some ⟨P,0,none⟩),.int .i64 c,.int .i64 (p:Int)] W λe W'=>e=.returned (.int .i64 (-1))/\Bad W P M c p W'/\∀o,o≠5->o≠6->W'.cell? ⟨P,o,none⟩=W.cell? ⟨P,o,none⟩:=by
 have f5:=fr 5
 have f6:=fr 6
 have R1:Hid (((W.setCell ⟨P,5,none⟩ (.int .i64 c)).setCell ⟨P,6,none⟩ (.int .i64 (p:Int))).cell? ⟨P,5,none⟩=some (.int .i64 c)):=(eW _ _ _ _ _ _ (.inr xaa)).trans (fR _ _ _ _ _ h5)
 have R2:Hid (((W.setCell ⟨P,5,none⟩ (.int .i64 c)).setCell ⟨P,6,none⟩ (.int .i64 (p:Int))).cell? ⟨P,6,none⟩=some (.int .i64 (p:Int))):=fR _ _ _ _ _ ((eW _ _ _ _ _ _ (.inr xaa)).trans h6)
 have R3:Hid (Chg M W ((W.setCell ⟨P,5,none⟩ (.int .i64 c)).setCell ⟨P,6,none⟩ (.int .i64 (p:Int)))):=Chg.andThen ((eL (lo:=P) (hi:=P+1) W ⟨P,5,none⟩ (.int .i64 c) yac).chg1 hM) ((eL (lo:=P) (hi:=P+1) _ ⟨P,6,none⟩ (.int .i64 (p:Int)) yac).chg1 hM)
 have R4:Hid (∀o,o≠5->o≠6->((W.setCell ⟨P,5,none⟩ (.int .i64 c)).setCell ⟨P,6,none⟩ (.int .i64 (p:Int))).cell? ⟨P,o,none⟩=W.cell? ⟨P,o,none⟩):=λo h1 h2=>(eW _ _ _ _ _ _ (.inr (λe=>h2 e.symm))).trans (eW _ _ _ _ _ _ (.inr (λe=>h1 e.symm)))
 clear fr hM
 go_enter func74,ntmps74
 go_wp2
 go_ret
 exact⟨rfl,⟨R1.out,R2.out,R3.out⟩,R4.out⟩
theorem GW {W:World}{P B:Nat}{u1 u2 u3 u4:Value}{bs:List Bc}{st:LSt}(h:WS W P B u1 u2 u3 u4 bs st)(g:Gd st)(v:Vl)(hv:1<=v.len/\v.len<=1000)(hvk:v.k<18446744073709551616)(p:Nat):
  Calls prog 78 #[.pointer (some ⟨P,0,none⟩),v.agg,.int .i64 (p:Int)] W (λe W'=>TrO W P B u1 u2 u3 u4 bs (fI st v p) e W'/\W'.cell? ⟨P,0,none⟩=some u1):=by
 obtain⟨i0,hi,hz0,hz1,hz2⟩:=info_parts oh
 have hn:=g.n
 have HK2:Hid _:=pM g.k hvk
 have HL2:Hid _:=tU g.len hv
 have k1:=ez 0 0 W (fX v.op v.len v.a v.b v.c v.k)
 have HW1:Hid _:=h.keep k1
 have HM1:Hid (Mv (Mst P u1 u2 u3 u4) W (Mst P u1 u2 u3 u4) (W.alloc (fX v.op v.len v.a v.b v.c v.k))):=Mv.of k1
 have c1:=HW1.out.c1
 have hown:Hid _:=HW1.out.r2
 have fz:=HW1.out.fr 1
 have hv6:=lA W v
 obtain⟨v0,v1,v2,v3,v4,v5⟩:=hv6
 have hsz:(W.alloc (fX v.op v.len v.a v.b v.c v.k)).heap.size=W.heap.size+1:=by simp
 have HR:Hid (u2.ownBlock≠some P/\u2.ownBlock≠some W.heap.size):=⟨h.np.2.1,λe=>by have:=(eG h.r2 e).2;omega⟩
 have hPl:=h.lt
 have hBz:B<=W.heap.size:=by have:=h.sz;omega
 have HP:Hid (fI st v p=if ji (st.vs++[v])=true then .error (5,p) else .ok ({st with vs:=st.vs++[v]},st.vs.length)):=rfl
 generalize fI st v p=r at HP ⊢
 obtain⟨a2,cp2,hu2⟩:=iB h.r2
 clear h k1 g
 subst hu2
 generalize hN:st.vs.length=N at*
 have HN:Hid (st.vs.length=N):=hN
 clear hN
 go_enter func78,ntmps78
 go_wp2_with fail
 generalize hw1:W.alloc (fX v.op v.len v.a v.b v.c v.k)=w1 at c1 hown v0 v1 v2 v3 v4 v5 hsz fz HW1 HM1 ⊢
 have hb1:B<=w1.heap.size:=xaa
 have hP1:P<w1.heap.size:=xaa
 have hV1:W.heap.size<w1.heap.size:=xaa
 clear hsz hw1
 go_region_law
  ((refine step_append_lies _ rfl (.tmp 12) (.tmp 14) 24 rfl B 35 i0 (ib 0 0 0 0 0 0) 6 48 underlying24 hi hz0 hz1 hz2 rfl xab _ _ (fp st.vs) (by simp[Act.eval]) (jK hown.out 1 _) ⟨w1.heap.size,0,none⟩ 1 1 v.cells (by simp[Act.eval]) rfl (qn _ _ _) (uK v) xab (by unfold maxLen;omega) xaa yaf _ rfl ?_;intro g9 cap9 w9 hown9 hg9 hat9 hlt9;have s0:=jC hg9 hP1 HR.out.1 c1;have f0:=far2 hg9 hP1 HR.out.1 fz;have s1:=jC hg9 hV1 HR.out.2 v0;have s2:=jC hg9 hV1 HR.out.2 v1;have s3:=jC hg9 hV1 HR.out.2 v2;have s4:=jC hg9 hV1 HR.out.2 v3;have s5:=jC hg9 hV1 HR.out.2 v4;have s6:=jC hg9 hV1 HR.out.2 v5))
 all_goals
  have hat':=hat9.imp id (λe=>Nat.le_of_eq e.symm)
  have kd:=(ez 0 0 w1 (.cells #[.int .i64 v.op,.int .i64 v.len,.int .i64 v.a,.int .i64 v.b,.int .i64 v.c,.float .f64 v.k] 35)).trans (eK 0 0 _ 1)
  have hown9':w9.ownsRow B 35 6 (.slice (some ⟨g9,0,none⟩) (N+1) cap9) (N+1) (fp (st.vs++[v])):=by rw[jf,kz];exact hown9
  obtain⟨hWn,hMn⟩:=(HW1.out.keep kd).vals (gD hg9) (vs:=st.vs++[v]) (by rw[yak,HN.out];rfl) hown9' hat'
  have HWn:Hid _:=hWn
  have HMn:Hid _:=(HM1.out.keep kd).trans hMn
  clear hWn hMn hat' kd hown9 hown9' hg9 hat9 hlt9 s0 f0 s1 s2 s3 s4 s5 s6 v0 v1 v2 v3 v4 v5 fz c1 hown HW1 HM1
  generalize w9.setCell ⟨P,1,none⟩ (.slice (some ⟨g9,0,none⟩) (N+1) cap9)=w10 at HWn HMn ⊢
  obtain⟨a1,x1,a2',x2,a3,x3,e1,e2,e3,hgs⟩:=HWn.out.gs HK2.out
  simp only at e1 e3 hgs
  subst e1 e3
  have HF:Hid _:=uU w10 _ _ _ _ x1 _ x2 _ x3 _ _ _ hgs HL2.out
  have hlen2:(st.vs++[v]).length=N+1:=by rw[yak,HN.out];rfl
  have HLa:Hid (∀W',_):=λW'=>ir W' a1 a2' a3 st.ins.length x1 (N+1) x2 st.outs.length x3 xaa
  rw[hlen2] at HF e2
  clear hgs
  have y0:=HWn.out.c0
  have y1:=HWn.out.c1
  have y2:=HWn.out.c2
  cases e2
  cases hb:ji (st.vs++[v])
  ·rw[hb] at HF HP
   have HP2:Hid (r=.ok ({st with vs:=st.vs++[v]},N)):=HP.out.trans (if_neg xac)
   have HKp:Hid (∀W',Kept 0 0 w10 W'->W'.cell? ⟨P,0,none⟩=some (.slice a1 st.ins.length x1)/\W'.cell? ⟨P,1,none⟩=some (.slice (some ⟨g9,0,none⟩) (N+1) cap9)/\W'.cell? ⟨P,2,none⟩=some (.slice a3 st.outs.length x3)):=λW' k=>⟨(HWn.out.keep k).c0,(HWn.out.keep k).c1,(HWn.out.keep k).c2⟩
   clear hb HP
   go_wp2_with (first
    |(go_at_call 114;refine yai HF.out ?_;rintro e w11 ⟨rfl,k11⟩;obtain⟨q0,q1,q2⟩:=HKp.out w11 k11)
    |(go_at_call 27;refine yai (HLa.out _) ?_;rintro e w12 ⟨rfl,k12⟩))
   go_ret
   rw[HP2.out]
   exact⟨⟨by simp,_,_,_,_,(HWn.out.keep k11).keep k12,(HMn.out.keep k11).keep k12⟩,((HWn.out.keep k11).keep k12).c0⟩
  ·rw[hb] at HF HP
   have HP2:Hid (r=.error (5,p)):=HP.out.trans (if_pos rfl)
   have HSt:Hid (∀W',Kept 0 0 w10 W'->_):=λW' k=>Ec (HWn.out.keep k).c5 (HWn.out.keep k).c6 (HWn.out.keep k).fr 5 p (Mst P (.slice a1 st.ins.length x1) (.slice (some ⟨g9,0,none⟩) (N+1) cap9) (.slice a3 st.outs.length x3) u4) (.inl rfl)
   clear hb HP
   go_wp2_with (first
    |(go_at_call 114;refine yai HF.out ?_;rintro e w11 ⟨rfl,k11⟩)
    |(go_at_call 74;refine yai (HSt.out _ k11) ?_;rintro e w12 ⟨rfl,hbad,hoth⟩))
   go_ret
   rw[HP2.out]
   exact⟨⟨rfl,hbad.c5,hbad.c6,(HMn.out.keep k11).bad hbad.chg⟩,(hoth 0 xab xab).trans (HWn.out.keep k11).c0⟩
