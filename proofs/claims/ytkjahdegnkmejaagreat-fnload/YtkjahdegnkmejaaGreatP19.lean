import Derived.Test.YtkjahdegnkmejaaGreatP08
namespace Go.Proofs.Z
open Tryz
set_option maxRecDepth 1000000
set_option maxHeartbeats 0
section
open Go.RowKit
variable{P:Program}{bS:Array Oper}{d:Region.Mode}{C:World->Prop}{n:Nat}
def hdQ(P:Program)(md:Region.Mode)(ops:Array Oper)(C:World->Prop)(n:Nat)(L:Array Bool->Act->Prop):Nat->Array Bool->Act->Prop
 |0,l,a=>L l a
 |f+1,l,a=>Region.ready md ops l≠[]/\∀i∈Region.ready md ops l,i<n/\qOp P ops C i (hdQ P md ops C n L f (l.setIfInBounds i true)) a
theorem BA{g L Q}(bI:∀l a w,C w->L l a->wpAny P d bS Q g l a w):∀f l a w,C w->hdQ P d bS C n L f l a->wpAny P d bS Q (f+g) l a w
 |0,l,a,w,S,h=>by rw[Nat.zero_add];exact bI l a w S h
 |f+1,l,a,w,S,h=>by
  rw[Nat.add_right_comm]
  exact⟨λaj=>absurd aj h.1,λi hi=>wpOp_of_qOp S (λak O b h'=>BA bI f _ _ _ b h') (h.2 i hi).2⟩
theorem Fv{i u v L}(hi:bS[i]? =some u)(m:Region.noSelect bS=true)(aw:Region.sinkB d bS n=true)(ai:Region.chainB d bS n=true)(hn:n<bS.size)(ah:i<n)(bI:∀l a,L l a->∀j∈Region.ready d bS l,n<=j):
  ∀f l a,HeadInv d bS n l->(∀j g,bS[j]? =some g->j≠i->l.getD j true=false->(∀e∈g.after,Region.binds d e=true->e.on≠i)->u.apart bS g=true)->i∈Region.ready d bS l->YieldsIn P bS C u v a->hdQ P d bS C n L f (l.setIfInBounds i true) (a.put u.dst v)->hdQ P d bS C n L (f+1) l a:=by
 intro f;induction f with
 |zero=>
  intro l a r _ au bK ab;have t:∀j∈Region.ready _ _ l,j<n:=λj hj=>(Nat.lt_or_ge j n).resolve_right λh=>tail_waits aw ai hn r _ i rfl ah (mem_ready.1 au).1 j h hj;refine⟨λh=>(by grind),λj hj=>⟨t j hj,?_⟩⟩;by_cases e:j=i
  ·subst e;exact bK.qOp hi ab
  exact absurd (bI _ _ ab j (ready_mono hj e)) (Nat.not_le_of_lt (t j hj))
 |succ f Z=>
  intro l a r br au bK ab;have G:=(mem_ready.1 au).1;have t:∀j∈Region.ready _ _ l,j<n:=λj hj=>(Nat.lt_or_ge j n).resolve_right λh=>tail_waits aw ai hn r _ i rfl ah G j h hj;refine⟨λh=>(by grind),λj hj=>⟨t j hj,?_⟩⟩;by_cases e:j=i
  ·subst e;exact bK.qOp hi ab
  obtain⟨av,g,w,aB⟩:=mem_ready.1 hj
  have aH:∀e∈g.after,Region.binds _ e=true->e.on≠i:=λe ay hb am=>by
   have:=aB e ay hb
   rw[am,getD_both G]at this
   cases this
  refine qOp_mono (λak h3=>Z _ _ (r.set hj (t j hj)) (λk ok J x dg z=>br k _ J x ?_ z) (ready_mono au (Ne.symm e)) h3.1 ?_) (qOp_put w (br j _ w e av aH) (λcs b=>Region.noSelect_spec m i _ _ b hi) (λcs b=>Region.noSelect_spec m j _ _ b w) bK (ab.2 j (ready_mono hj e)).2)
  ·by_cases q:j=k<;>simp_all<;>grind
  rw[Array.setIfInBounds_comm _ _ e];exact h3.2
theorem BB{g H}(m:Region.noSelect bS=true)(aw:Region.sinkB d bS n=true)(ai:Region.chainB d bS n=true)(hn:n<bS.size):
  ∀(l:List Oper) (k:Nat) (t:Array Bool) (a:Act),(∀j,j<l.length->l[j]? =bS[k+j]?)->k+l.length=n->HeadInv d bS n t->Region.lexHead d bS g l.length k t=true->wpQuiet P bS C H l a->hdQ P d bS C n (λbG ak=>Region.seqB d bS g n bG=true/\H ak) l.length t a
 |[],k,t,a,_,J,_,aZ,h=>by
  obtain rfl:k=n:=J
  exact⟨aZ,h⟩
 |o::l,k,t,a,ag,J,r,aZ,h=>by
  have aj:bS[k]? =some o:=(ag 0 (Nat.zero_lt_succ _)).symm
  simp only[yaq,Region.lexHead,Bool.and_eq_true]at aZ J ag
  obtain⟨⟨au,br⟩,e⟩:=aZ
  have b:k∈Region.ready d bS t:=by grind
  have am:qOp P bS C k (wpQuiet P bS C H l) a:=by unfold qOp;simp only[aj];exact h
  obtain⟨v,bK,aS⟩:=yieldsIn_of_qOp aj am
  exact Fv aj m aw ai hn xaa (λ_ _ q=>seqB_ready q.1) _ t a r (Region.free_spec aj br) b bK (BB m aw ai hn l _ _ _ (λj hj=>by grind) xaa (r.set b xaa) e aS)
theorem uV{id Q a w}{l:List Oper}(n)(aD:P.follows .mixedOrders=true)(aZ:Region.lexTailB .any l.toArray n=true)(bn:C {w with drawn:=w.drawn+1})
  (h:wpQuiet P l.toArray C (λak=>∀O,C O->wpList P l.toArray Q (l.drop n) ak O) (l.take n) a):(Code.region id l.toArray true).wp P Q a w:=by
 simp only[Region.lexTailB,Bool.and_eq_true,decide_eq_true_eq]at aZ;obtain⟨⟨⟨⟨m,hn⟩,aw⟩,ai⟩,aH⟩:=aZ;have aG:n<l.length:=xaa;have ht:(l.take n).length=n:=by grind
 have ab:=BB m aw ai hn _ 0 (Array.replicate l.toArray.size _) a (λj hj=>by
  rw[ht]at hj
  simp[hj]) xaa ⟨by simp,λj g _ q=>(by rw[getD_replicate_false]at q;cases q),λt _ q=>getD_in (by simpa using q) (getD_replicate_false _ _)⟩ (jn ht aH) h
 refine wp_region_any aD ?_;have:=BA (Q:=Q) (g:=l.toArray.size-n) (λt ak O b q=>?_) _ _ _ _ bn ab
 ·rw[ht,Nat.add_sub_cancel' (Nat.le_of_lt hn)]at this;exact this
 have aN:(l.drop n).length=l.toArray.size-n:=by simp
 rw[<-aN];exact wpAny_of_seq _ n t _ _ (λj=>by simp) (by grind) (q.2 _ b)
structure KW(w:World) where
 v:World
 k:Kept 0 0 w v
instance (w:World):Nonempty (KW w):=⟨⟨w,.refl _ _ _⟩⟩
end
section
open Go.RowKit Flt
attribute[local go_sem] eE eC eB
variable{w:World}{R U K:Option Addr}{m1 ad m3 ah base cap u:Nat}{vs:List Vl}{o Q l f r aA aZ S:Int}{H R':Option Nat}{c0 c1 c2 c3 c4 J ag Y aX h P aR an aC az aw N ai am:Value}
theorem wL{W}(Z:V (MS w W R m1 ad U m3 ah vs ⟨o,Q,l,f,r,u⟩ base H R' K cap))(bj:vs.length<=900000):MfC 17 W (MpR w R m1 ad U m3 ah vs ⟨o,Q,l,f,r,u⟩ base H (eK o Q aA f 0)) c0 c1 (ih aA) c3 c4 (ge w.heap.size) J ag Y aX h P (ge (w.heap.size+1+1)) (ih Q) an az aw N ai am P:=by
 unfold MfC;intros;rename_i HK;have bi:V (∀aq,Kept 0 0 W aq->_):=λaq k=>MS.call Z.o k (eK o Q aA f 0) xaa;have a0:=Z.o.g.c0;have av:=Z.o.g.c1;have aT:=Z.o.g.c2;have B:=Z.o.v.c0;exact xan
theorem Fw{W i}(Z:V (MS w W R m1 ad U m3 ah vs ⟨o,Q,l,f,r,u⟩ base H R' K cap))(bj:vs.length<=900000):MfC 23 W (MpR w R m1 ad U m3 ah vs ⟨o,Q,l,f,r,u⟩ base H (eK 4 Q i S 0)) c0 (ih i) c2 (ih S) c4 (ge w.heap.size) J ag Y aX h P (ge (w.heap.size+1+1)) (ih Q) an az aw N ai am P:=by
 unfold MfC;intros;rename_i HK;have bi:V (∀aq,Kept 0 0 W aq->_):=λaq k=>MS.call Z.o k (eK 4 Q i S 0) xaa;exact xaf
theorem LN{W}(Z:V (MS w W R m1 ad U m3 ah vs ⟨o,Q,l,f,r,u⟩ base H R' K cap))(bj:vs.length<=900000)(bL:(vs.length:Int)-1=aZ):MfC 6 W (λF=>F.cell? ⟨w.heap.size+1,0,none⟩=some (.slice R m1 ad)/\F.cell? ⟨w.heap.size+1,1,none⟩=some (.slice K vs.length cap)/\F.cell? ⟨w.heap.size+1,2,none⟩=some (.slice U m3 ah)/\V (∃aM,Kept 0 0 W aM/\F=fk aM (w.heap.size+1) (.slice R m1 ad) (.slice K vs.length cap) (.slice U m3 ah))) c0 c1 c2 c3 c4 (ge w.heap.size) J ag Y aX (ge (w.heap.size+1)) P aR aC an az aw N ai am (ih aZ):=by
 exact no_implicit_lambda% xag
theorem M7{W}(Z:V (MS w W R m1 ad U m3 ah vs ⟨o,Q,l,f,r,u⟩ base H R' K cap))(bj:vs.length<=900000)(bL:(vs.length:Int)-1=aZ):MfC 11 W (λF=>F.cell? ⟨w.heap.size+1,0,none⟩=some (.slice R m1 ad)/\F.cell? ⟨w.heap.size+1,1,none⟩=some (.slice K vs.length cap)/\F.cell? ⟨w.heap.size+1,2,none⟩=some (.slice U m3 ah)/\V (∃aM,Kept 0 0 W aM/\F=fk aM (w.heap.size+1) (.slice R m1 ad) (.slice K vs.length cap) (.slice U m3 ah))) c0 c1 c2 c3 c4 (ge w.heap.size) J ag Y aX (ge (w.heap.size+1)) P aR aC an az aw N ai am (ih aZ):=by
 exact no_implicit_lambda% xag
theorem LO{W}(Z:V (MS w W R m1 ad U m3 ah vs ⟨o,Q,l,f,r,u⟩ base H R' K cap))(bj:vs.length<=900000):MfC 5 W (MpR w R m1 ad U m3 ah vs ⟨o,Q,l,f,r,u⟩ base H (eK o Q aA S 0)) c0 c1 (ih aA) (ih S) c4 (ge w.heap.size) J ag Y aX h P (ge (w.heap.size+1+1)) (ih Q) an az aw N ai am P:=by
 unfold MfC;intros;rename_i HK;have bi:V (∀aq,Kept 0 0 W aq->_):=λaq k=>MS.call Z.o k (eK o Q aA S 0) xaa;have a0:=Z.o.g.c0;have av:=Z.o.g.c1;have aT:=Z.o.g.c2;have B:=Z.o.v.c0;exact xae
theorem M8{W}(Z:V (MS w W R m1 ad U m3 ah vs ⟨o,Q,l,f,r,u⟩ base H R' K cap))(bj:vs.length<=900000):MfC 10 W (MpR w R m1 ad U m3 ah vs ⟨o,Q,l,f,r,u⟩ base H (eK 6 Q S 0 0)) c0 c1 c2 (ih S) c4 (ge w.heap.size) J ag Y aX h P (ge (w.heap.size+1+1)) (ih Q) an az aw N ai am P:=by
 unfold MfC;intros;rename_i HK;have bi:V (∀aq,Kept 0 0 W aq->_):=λaq k=>MS.call Z.o k (eK 6 Q S 0 0) xaa;exact xaf
theorem Fx{W p q b}(Z:V (MS w W R m1 ad U m3 ah vs ⟨o,Q,l,f,r,u⟩ base H R' K cap))(bj:vs.length<=900000):MfC 30 W (MpR w R m1 ad U m3 ah vs ⟨o,Q,l,f,r,u⟩ base H (eK b Q p q 0)) c0 c1 c2 c3 c4 (ge w.heap.size) J ag Y aX h P (ge (w.heap.size+1+1)) (ih Q) (ih p) (ih q) (ih b) N ai am P:=by
 unfold MfC;intros;rename_i HK;have bi:V (∀aq,Kept 0 0 W aq->_):=λaq k=>MS.call Z.o k (eK b Q p q 0) xaa;exact xaf
