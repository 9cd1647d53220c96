import Derived.Test.YtgamjhpebmmjcaaGreatDoorP42
import Derived.Test.YtgamjhpebmmjcaaGreatDoorP09
import Derived.Test.YtgamjhpebmmjcaaGreatDoorP46
import Derived.Test.YtgamjhpebmmjcaaGreatDoorP41
import Derived.Test.YtgamjhpebmmjcaaGreatDoorP47
import Derived.Test.YtgamjhpebmmjcaaGreatDoorP40
import Derived.Test.YtgamjhpebmmjcaaGreatDoorP48
namespace Go.Proofs.YtgamjhpebmmjcaaGreatDoor
set_option maxRecDepth 100000
set_option maxHeartbeats 40000000
open Go.RowKit Flt
attribute [local go_sem] alloc_drewN setCell_drewN run_store_float
theorem copyGraphN (w:World):Calls Tryz.prog 39 #[gagg none 0 0 none 0 0 none 0 0] w fun e w'=>e=.returned (gagg none 0 0 none 0 0 none 0 0)∧Kept 0 0 w w':=by
 have k0:=kept_alloc 0 0 w (gbox none 0 0 none 0 0 none 0 0)
 have k0':=kept_alloc 0 0 (w.alloc (gbox none 0 0 none 0 0 none 0 0)) nbox
 have HB:Hid _:=(g0_start w (.slice none 0 0) (.slice none 0 0) (.slice none 0 0)).keep k0'
 have hz:(w.alloc (gbox none 0 0 none 0 0 none 0 0)).heap.size=w.heap.size+1:=by simp
 have hR:=rb_start (w.alloc (gbox none 0 0 none 0 0 none 0 0))
 rw[hz] at hR
 have HR:Hid _:=hR
 have HK:Hid _:=k0.trans k0'
 clear k0 k0' hz hR
 obtain⟨_,q0,q1,q2⟩:=HB.out
 go_enter Tryz.func39,Tryz.ntmps39
 go_wp2_with fail
 generalize (w.alloc (gbox none 0 0 none 0 0 none 0 0)).alloc nbox=w1 at HB HR HK q0 q1 q2 ⊢
 have hPR:w.heap.size≠w.heap.size+1:=by omega
 go_region_held3 (fun w'=>w'.cell? ⟨w.heap.size,0,none⟩=some (.slice none 0 0)∧w'.cell? ⟨w.heap.size,1,none⟩=some (.slice none 0 0)∧w'.cell? ⟨w.heap.size,2,none⟩=some (.slice none 0 0)) (first|go_keep|(simp only[cell3c _ _ _ _ _ _ _ hPR];exact⟨r0,r1,r2⟩))
  (first
   |(go_at_call 41;refine Calls.mono (cloneNI w3) ?_;rintro e w4 ⟨rfl,hw4⟩;have kk3:=kk2.trans hw4;obtain⟨_,r0,r1,r2⟩:=G0.keep HB.out kk3;obtain⟨_,j0,j1,j2,f0,f1,f2⟩:=RB.keep HR.out kk3)
   |(go_at_call 69;refine Calls.mono (cloneNV w2) ?_;rintro e w3 ⟨rfl,hw3⟩;have kk2:=kk1.trans hw3;obtain⟨_,t0,t1,t2⟩:=G0.keep HB.out kk2)
   |(go_at_call 41;refine Calls.mono (cloneNI (w1.drewN 1)) ?_;rintro e w2 ⟨rfl,hw2⟩;have kk1:=Kept.trans (kept_drewN 0 0 w1 1) hw2;obtain⟨_,s0,s1,s2⟩:=G0.keep HB.out kk1))
 have HK4:Hid _:=HK.out.trans kk3
 clear q0 q1 q2 s0 s1 s2 t0 t1 t2 r0 r1 r2 hw2 hw3 hw4 kk1 kk2 kk3 HB
 go_wp2_with fail
 obtain⟨y0,y1,y2⟩:=put3_0 w4 (w.heap.size+1) _ _ _ j0 j1 j2 (.slice none 0 0) (.slice none 0 0) (.slice none 0 0)
 have kp:=put3_kept w4 (w.heap.size+1) (.slice none 0 0) (.slice none 0 0) (.slice none 0 0)
 refine bodyPost_ret (v:=gagg none 0 0 none 0 0 none 0 0) (by simp[results,Tryz.results39,go_sem,y0,y1,y2]) rfl ⟨rfl,?_⟩
 exact HK4.out.new kp (by omega)
theorem newBuilderN (w:World):Calls Tryz.prog 61 #[gagg none 0 0 none 0 0 none 0 0] w fun e w'=>∃P,e=.returned (.pointer (some ⟨P,0,none⟩))∧BS w' P (.slice none 0 0) (.slice none 0 0) [] 0 w.heap.size none (.slice none 0 0)∧w.heap.size≤P∧Kept 0 0 w w':=by
 have k0:=kept_alloc 0 0 w (gbox none 0 0 none 0 0 none 0 0)
 have HB:Hid _:=g0_start w (.slice none 0 0) (.slice none 0 0) (.slice none 0 0)
 have HK:Hid _:=k0
 have HC:Hid (∀w,_):=copyGraphN
 clear k0
 obtain⟨_,q0,q1,q2⟩:=HB.out
 go_enter Tryz.func61,Tryz.ntmps61
 go_wp2_with fail
 clear q0 q1 q2
 generalize w.alloc (gbox none 0 0 none 0 0 none 0 0)=w1 at HB HK ⊢
 refine Calls.mono (HC.out w1) ?_
 rintro e w4 ⟨rfl,kk3⟩
 have k5:=kept_alloc 0 0 w4 (.cells #[.slice none 0 0,.slice none 0 0,.slice none 0 0,.int .i64 0] 127)
 have hz1:w.heap.size≤w1.heap.size:=HK.out.size
 have HBS:Hid (BS (w4.alloc (.cells #[.slice none 0 0,.slice none 0 0,.slice none 0 0,.int .i64 0] 127)) w4.heap.size (.slice none 0 0) (.slice none 0 0) [] 0 w.heap.size none (.slice none 0 0)):=
  ⟨by simp,fun o=>by simp,by simp,by simp,by simp,by simp,World.ownsRow_nil _ _ _ _,rfl,(fun e=>by cases e),(by have:=kk3.size;simp;omega)⟩
 have HK5:Hid _:=Kept.trans kk3 k5
 have HB5:Hid _:=G0.keep HB.out HK5.out
 have HLe:Hid (w.heap.size≤w4.heap.size):=by have:=kk3.size;show _≤_;omega
 obtain⟨_,p0,p1,p2⟩:=HB5.out
 clear k5 kk3 hz1 HB
 go_wp2_with fail
 clear p0 p1 p2
 generalize w4.alloc (.cells #[.slice none 0 0,.slice none 0 0,.slice none 0 0,.int .i64 0] 127)=w5 at HBS HK5 HB5 ⊢
 go_loopw [13] (fun x W=>x=.int .i64 0∧W=w5) (fun x _=>0)
 case atStart=>exact⟨rfl,rfl⟩
 case round=>
  obtain⟨rfl,hW⟩:=hrel
  obtain rfl:=hW
  go_wp2_with fail
  go_ret
  exact⟨w4.heap.size,rfl,HBS.out,HLe.out,HK.out.trans HK5.out⟩
end Go.Proofs.YtgamjhpebmmjcaaGreatDoor
namespace Go.Proofs.YtgamjhpebmmjcaaGreatDoor
set_option maxRecDepth 100000
set_option maxHeartbeats 40000000
open Go.RowKit Flt
abbrev trW (W:World)(P:Nat):World:=((W.alloc (.map #[] 0)).alloc (.map #[] 0)).alloc (.cells #[.pointer (some ⟨P,0,none⟩),.map (some W.heap.size),.map (some (W.heap.size+1)),.int .i64 0,.slice none 0 0,.slice none 0 0] 124)
abbrev trE (W:World)(P N:Nat):Tqe:=⟨P,W.heap.size+2,W.heap.size,W.heap.size+1,N,.slice none 0 0,.slice none 0 0⟩
def trR (W:World)(P:Nat):Nat→Nat:=fun b=>if b=P then 1 else if b=W.heap.size then 3 else if b=W.heap.size+1 then 4 else if b=W.heap.size+2 then 2 else 0
theorem Tq.start {W:World}{P N:Nat}(h:BS W P (.slice none 0 0) (.slice none 0 0) [] 0 N none (.slice none 0 0))(hP:N≤P):Tq (trE W P N) (trR W P) (trW W P) LSt.zero [] []:=by
 have k1:=kept_alloc 0 0 W (.map #[] 0)
 have k2:=kept_alloc 0 0 (W.alloc (.map #[] 0)) (.map #[] 0)
 have k3:=kept_alloc 0 0 ((W.alloc (.map #[] 0)).alloc (.map #[] 0)) (.cells #[.pointer (some ⟨P,0,none⟩),.map (some W.heap.size),.map (some (W.heap.size+1)),.int .i64 0,.slice none 0 0,.slice none 0 0] 124)
 have z1:(W.alloc (.map #[] 0)).heap.size=W.heap.size+1:=by simp
 have z2:((W.alloc (.map #[] 0)).alloc (.map #[] 0)).heap.size=W.heap.size+2:=by simp
 have z3:(trW W P).heap.size=W.heap.size+3:=by simp
 have hlt:=h.lt
 have hsz:=h.sz
 obtain⟨b1,b2,b3⟩:=box_at ((W.alloc (.map #[] 0)).alloc (.map #[] 0)) _ #[.pointer (some ⟨P,0,none⟩),.map (some W.heap.size),.map (some (W.heap.size+1)),.int .i64 0,.slice none 0 0,.slice none 0 0] 124 (Kept.refl 0 0 _).chg (S:=fun _=>False) (fun c=>c)
 rw[z2] at b1 b2 b3
 have m1:Mp (trW W P) W.heap.size (fun _=>none):=((Mp.new W).chg (k2.chg (S:=fun _=>False)) (fun c=>c)).chg (k3.chg (S:=fun _=>False)) (fun c=>c)
 have m2:Mp (trW W P) (W.heap.size+1) (fun _=>none):=by
  have:=(Mp.new (W.alloc (.map #[] 0))).chg (k3.chg (S:=fun _=>False)) (fun c=>c)
  rw[z1] at this
  exact this
 have hb:BS (trW W P) P (.slice none 0 0) (.slice none 0 0) [] 0 N none (.slice none 0 0):=h.chg (((k1.trans k2).trans k3).chg (S:=fun _=>False)) (fun c=>c) (fun _ _ c=>c)
 have hc:cellsV []=0:=by simp[cellsV]
 refine⟨.slice none 0 0,.slice none 0 0,.slice none 0 0,.slice none 0 0,.slice none 0 0,⟨?_,World.ownsRow_nil _ _ _ _,World.ownsRow_nil _ _ _ _,?_,(fun b e=>by cases e),(fun b e=>by cases e),(fun b e=>by cases e),rfl,rfl⟩,⟨⟨b3,b2,b1 0,b1 1,b1 2,b1 3,b1 4,b1 5⟩,World.ownsRow_nil _ _ _ _,World.ownsRow_nil _ _ _ _,?_,⟨fun _=>none,m2,fun s=>rfl⟩,(fun y hy=>by cases hy),?_,?_,?_,(fun b e=>by cases e),(fun b e=>by cases e),?_,?_,?_⟩⟩
 ·show BS _ _ _ _ [] (cellsV []) _ _ _
  rw[hc]
  exact hb
 ·show trR W P P=1
  unfold trR;rw[if_pos rfl]
 ·have:valF []=fun _=>none:=by funext s;rfl
  show Mp _ _ (valF [])
  rw[this]
  exact m1
 ·show trR W P (W.heap.size+2)=2
  unfold trR;rw[if_neg (by omega),if_neg (by omega),if_neg (by omega),if_pos rfl]
 ·show trR W P W.heap.size=3
  unfold trR;rw[if_neg (by omega),if_pos rfl]
 ·show trR W P (W.heap.size+1)=4
  unfold trR;rw[if_neg (by omega),if_neg (by omega),if_pos rfl]
 ·intro b hbN
  have hbN:b<N:=hbN
  unfold trR;rw[if_neg (by omega),if_neg (by omega),if_neg (by omega),if_neg (by omega)]
 ·intro b hbN
  rw[z3] at hbN
  unfold trR;rw[if_neg (by omega),if_neg (by omega),if_neg (by omega),if_neg (by omega)]
 ·show N≤_
  rw[z3];omega
theorem trR_new {W:World}{P N b:Nat}(hP:N≤P)(hN:N≤W.heap.size)(h:trR W P b≠0):N≤b:=by
 unfold trR at h
 repeat' split at h
 all_goals first|omega|exact absurd rfl h
theorem stg_zero:StG LSt.zero:=by
 refine⟨⟨Nat.zero_le _,by decide,rfl,(fun v hv=>by cases hv),Nat.zero_le _,Nat.zero_le _,Nat.zero_le _⟩,(fun b hb=>by cases hb),(fun _ _ _ hb=>by cases hb),Nat.zero_le _⟩
end Go.Proofs.YtgamjhpebmmjcaaGreatDoor
namespace Go.Proofs.YtgamjhpebmmjcaaGreatDoor
set_option maxRecDepth 100000
set_option maxHeartbeats 40000000
open Go.RowKit Flt
attribute [local go_sem] alloc_drewN setCell_drewN run_store_float fld0 fld1 fld2 mkF run_makeMap
def GoO (w:World)(r:Rs LSt)(e:Ending)(w':World):Prop:=
 (∃st u1 vv u3,r=.ok st∧e=.returned (.agg #[u1,vv,u3])∧w'.ownsRow w.heap.size 3 1 u1 st.ins.length (intsI st.ins)∧w'.ownsRow w.heap.size 87 6 vv st.vs.length (flat st.vs)∧w'.ownsRow w.heap.size 3 1 u3 st.outs.length (intsI st.outs)∧(∃c:Nat→Nat,(∀b,u1.ownBlock=some b→c b=6)∧(∀b,vv.ownBlock=some b→c b=5)∧(∀b,u3.ownBlock=some b→c b=7))∧StG st∧Kept 0 0 w w')∨(∃c p,r=.error (c,p)∧e=Thr c (p:Nat)∧Kept 0 0 w w')
theorem own_formG {W:World}{T size n b:Nat}{v:Value}{xs:List Value}(h:W.ownsRow b T size v n xs):∃a c,v=.slice a n c:=by
 rcases h.2 with⟨e1,e2⟩|⟨g,cap,cur,e1,_⟩
 ·exact⟨none,0,by rw[e1,e2]⟩
 ·exact⟨_,cap,e1⟩
theorem own_low {W:World}{T size n b b':Nat}{v:Value}{xs:List Value}(h:W.ownsRow b T size v n xs)(hb:b'≤b):W.ownsRow b' T size v n xs:=⟨h.1,h.2.imp id (fun⟨g,cap,cur,h1,h2,h3⟩=>⟨g,cap,cur,h1,Nat.le_trans hb h2,h3⟩)⟩
end Go.Proofs.YtgamjhpebmmjcaaGreatDoor
namespace Go.Proofs.YtgamjhpebmmjcaaGreatDoor
set_option maxRecDepth 100000
set_option maxHeartbeats 40000000
open Go.RowKit Flt
def SimS (s:Sm):Prop:=∃k e,s=.outS k e∧k.sym≠[]∧SimE e∧ENk e
theorem sim_ev {f:Nat}{st:LSt}{e:Ex}(hs:SimE e)(g:Gd st){st':LSt}{a:Nat}(h:evalE f st [] e=some (.ok (st',a))):Gw st st'∧a<st'.vs.length∧st'.calls=st.calls:=by
 have calls:∀{s s':LSt} {v:Vl} {p b:Nat},putM s v p=.ok (s',b)→s'.calls=s.calls:=fun {s s' v p b} h=>by
  unfold putM at h
  split at h
  ·cases h
  ·cases h;rfl
 rcases hs with⟨t,rfl⟩|⟨o,t,rfl⟩
 ·cases f with
  |zero=>simp[evalE] at h
  |succ f=>
   simp only[evalE,Option.some.injEq] at h
   have q:=rsg_put g (g.v.p1 ⟨by decide,by decide⟩ (cop_lt _ _ _)) t.pos st' a h
   exact⟨q.1,q.2,calls h⟩
 ·cases f with
  |zero=>simp[evalE] at h
  |succ f=>
   cases f with
   |zero=>simp[evalE,thenE] at h
   |succ f=>
    simp only[evalE,thenE] at h
    cases h1:putM st ⟨1,1,0,0,0,numK t.text⟩ t.pos with
    |error q=>rw[h1] at h;cases h
    |ok z=>
     obtain⟨s1,a1⟩:=z
     rw[h1] at h
     simp only[Option.some.injEq] at h
     have q1:=rsg_put g (g.v.p1 ⟨by decide,by decide⟩ (cop_lt _ _ _)) t.pos s1 a1 h1
     have q2:=rsg_put q1.1.g (q1.1.g.v.one (.inl rfl) (ln_of q1.2)) o.pos st' a h
     exact⟨q1.1.trans q2.1,q2.2,(calls h).trans (calls h1)⟩
theorem sim_step {f:Nat}{st s':LSt}{s:Sm}(g:StG st)(hs:SimS s)(h:stmtM f st s=some (.ok s')):StG s'∧s'.names.length≤st.names.length+1:=by
 obtain⟨k,e,rfl,_,he,_⟩:=hs
 simp only[stmtM] at h
 by_cases c:50≤st.outs.length
 ·rw[if_pos c] at h;cases h
 ·rw[if_neg c] at h
  cases h1:evalE f st [] e with
  |none=>rw[h1] at h;cases h
  |some r1=>
   rw[h1] at h
   rcases r1 with q|⟨s1,v⟩
   ·cases h
   ·obtain⟨gw,hv,hcl⟩:=sim_ev he g.g h1
    cases h
    have g1:=gw.g
    refine⟨⟨⟨g1.n,g1.c,g1.ok,g1.k,g1.i,?_,g1.m⟩,fun b hb=>?_,?_,by show s1.calls≤500;rw[hcl];exact g.c⟩,by show s1.names.length≤_;rw[gw.m];omega⟩
    ·show(s1.outs++[(v:Int)]).length≤50
     rw[gw.o]
     simp
     omega
    ·have hb2:b∈st.names:=by rw[←gw.m];exact hb
     exact(g.m b hb2).le gw.n
    ·show NmS s1.names
     rw[gw.m]
     exact g.s
theorem sim_start {st:LSt}{e:Ex}(g:Gd st)(he:SimE e):InG st [mkT [] e] []:=by
 refine⟨g,fun t ht=>?_,(fun y hy=>by cases hy),?_⟩
 ·have:t=mkT [] e:=by simpa using ht
  rw[this]
  exact he
 ·rcases he with⟨t,rfl⟩|⟨o,t,rfl⟩
  ·show 0+(szE (.num t)+0)≤10000
   simp[szE]
  ·show 0+(szE (.neg o (.num t))+0)≤10000
   simp[szE]
theorem sim_stmt {E:Tqe}{ρ:Nat→Nat}{w:World}{st:LSt}(h:Tq E ρ w st [] [])(g:StG st){v:Value}{s:Sm}(hsd:Sd w (fun b=>b<E.N) v s)(hs:SimS s){f:Nat}{r:Rs LSt}(hr:stmtM f st s=some r):
  ∃T x fn,v=.iface T x∧(fn=308∨fn=310∨fn=311∨fn=312∨fn=209)∧(∀W,Sem.run Tryz.prog (method 489 T x "loop.example/s08086/impl.carryOut") W=.ok (fn,x) W)∧Calls Tryz.prog fn #[x,.pointer (some ⟨E.T,0,none⟩)] w (StX1 E ρ w r):=by
 obtain⟨k,e,rfl,hk,he,hen⟩:=hs
 cases hsd with
 |@outS _ _ v hn=>
  obtain⟨T0,y0,rfl⟩:=hn.iface
  refine⟨_,_,_,rfl,.inr (.inr (.inr (.inr rfl))),me_out _ _ _ _,?_⟩
  obtain⟨f1,r1,hev,hre⟩:∃f1 r1,evalE f1 st [] e=some r1∧r=(if 50≤st.outs.length then .error (5,k.pos) else outR r1):=by
   simp only[stmtM] at hr
   by_cases c:50≤st.outs.length
   ·rw[if_pos c] at hr
    have:∃r0,evalE 2 st [] e=some r0:=by
     rcases he with⟨t,rfl⟩|⟨o,t,rfl⟩
     ·exact⟨_,rfl⟩
     ·simp only[evalE,thenE]
      cases putM st ⟨1,1,0,0,0,numK t.text⟩ t.pos with
      |error q=>exact⟨_,rfl⟩
      |ok z=>obtain⟨s1,a1⟩:=z;exact⟨_,rfl⟩
    obtain⟨r0,h0⟩:=this
    exact⟨2,r0,h0,by rw[if_pos c];exact(Option.some.inj hr).symm⟩
   ·rw[if_neg c] at hr
    cases hev:evalE f st [] e with
    |none=>rw[hev] at hr;cases hr
    |some r1=>rw[hev] at hr;exact⟨f,r1,hev,by rw[if_neg c];exact(Option.some.inj hr).symm⟩
  obtain⟨q,hq⟩:=sim_runs he hev
  rw[hre]
  exact outS_of h g.g.o hk (fun W kw=>traceN (h.keep kw) (hn.keep kw) hen (sim_start g.g he) hq) (fun st' a e1=>by rw[e1] at hev;exact(sim_ev he g.g hev).1.o)
end Go.Proofs.YtgamjhpebmmjcaaGreatDoor
namespace Go.Proofs.YtgamjhpebmmjcaaGreatDoor
set_option maxRecDepth 100000
set_option maxHeartbeats 40000000
open Go.RowKit Flt
attribute [local go_sem] alloc_drewN setCell_drewN run_store_float fld0 fld1 fld2 mkF run_makeMap
def Nl1 (e:Ending):Prop:=∀x y z,e=.returned (.agg #[x,y,z])→x=.slice none 0 0
def GoO1 (w:World)(r:Rs LSt)(e:Ending)(w':World):Prop:=GoO w r e w'∧Nl1 e
def GoI1 (E0:Tqe)(ρ0:Nat→Nat)(W0:World)(f:Nat)(ss:List Sm)(r:Rs LSt)(j:Nat)(W:World):Prop:=
 ∃stj ρj Ej,Esm1 E0 Ej∧Tq Ej ρj W stj [] []∧Sco ρ0 W0 ρj W∧StG stj∧stj.names.length≤j∧progM f stj (ss.drop j)=some r
theorem graphS1 {w:World}{aS:Option Addr}{n cS:Nat}{vs:List Value}{ss:List Sm}(hn:vs.length=n)(hrow:w.ownsRow 0 112 1 (.slice aS n cS) n vs)(hsd:SdL w (fun b=>b<w.heap.size) vs ss)(hl:n≤4500){P:Sm→Prop}(hx:∀s∈ss,P s){f:Nat}{r:Rs LSt}(hr:progM f LSt.zero ss=some r)
  (hst:∀(E:Tqe) (ρ:Nat→Nat) (W:World) (st:LSt) (v:Value) (s:Sm) (r1:Rs LSt),Tq E ρ W st [] []→StG st→Sd W (fun b=>b<E.N) v s→P s→stmtM f st s=some r1→∃T x fn,v=.iface T x∧(fn=308∨fn=310∨fn=311∨fn=312∨fn=209)∧(∀W,Sem.run Tryz.prog (method 489 T x "loop.example/s08086/impl.carryOut") W=.ok (fn,x) W)∧Calls Tryz.prog fn #[x,.pointer (some ⟨E.T,0,none⟩)] W (StX1 E ρ W r1))
  (hsg:∀(st s':LSt) (s:Sm),StG st→st.names.length<5000→P s→stmtM f st s=some (.ok s')→StG s'∧s'.names.length≤st.names.length+1):
  Calls Tryz.prog 35 #[.slice aS n cS] w (GoO1 w r):=by
 have HRB:Hid _:=rb_start w
 have k0:=kept_alloc 0 0 w nbox
 have z0:(w.alloc nbox).heap.size=w.heap.size+1:=by simp
 have HNB:Hid _:=newBuilderN (w.alloc nbox)
 have HRow:Hid _:=hrow
 have HSd:Hid _:=hsd
 have HX:Hid _:=hx
 have HSt:Hid _:=hst
 have HSg:Hid _:=hsg
 have HR:Hid _:=hr
 have HN:Hid (vs.length=n):=hn
 have HK0:Hid _:=k0
 have HZ0:Hid ((w.alloc nbox).heap.size=w.heap.size+1):=z0
 clear hrow hsd hx hst hsg hr hn k0 z0
 go_enter Tryz.func35,Tryz.ntmps35
 go_upto_region 2 with (go_at_call 61;refine Calls.mono HNB.out ?_;rintro e w4 ⟨B,rfl,hBS,hP,k4⟩;have H4:Hid _:=And.intro hBS (And.intro hP k4);clear hBS hP k4)
 change Code.wp _ _ _ _ (trW w4 B)
 obtain⟨hBS,hP,k4⟩:=H4.out
 rw[HZ0.out] at hBS hP
 have hq0:=Tq.start hBS hP
 have k3:Kept 0 0 w4 (trW w4 B):=((kept_alloc 0 0 w4 _).trans (kept_alloc 0 0 _ _)).trans (kept_alloc 0 0 _ _)
 have HKw:Hid (Kept 0 0 w (trW w4 B)):=(HK0.out.trans k4).trans k3
 have HRB3:Hid _:=(RB.keep HRB.out k4).keep k3
 have HI0:Hid (GoI1 (trE w4 B (w.heap.size+1)) (trR w4 B) (trW w4 B) f ss r 0 (trW w4 B)):=⟨LSt.zero,_,_,⟨rfl,rfl,rfl,rfl,rfl,rfl⟩,hq0,Sco.refl _ _,stg_zero,Nat.zero_le _,HR.out⟩
 have HC:Hid (∀b,trR w4 B b≠0→w.heap.size+1≤b):=fun b h=>trR_new hP hBS.sz h
 clear hBS hP k4 hq0 k3 H4
 have hT0:(trE w4 B (w.heap.size+1)).T=w4.heap.size+2:=rfl
 generalize hE0:trE w4 B (w.heap.size+1)=E0 at HI0 hT0
 have HE0:Hid (E0.N=w.heap.size+1∧E0.u1=.slice none 0 0):=by rw[←hE0];exact⟨rfl,rfl⟩
 generalize trR w4 B=ρ0 at*
 generalize trW w4 B=W0 at*
 rw[←hT0]
 clear hT0 hE0
 have HKp:Hid (∀W,Chg (fun b=>ρ0 b≠0) W0 W→Kept 0 0 w W):=fun W c=>by
  have c1:Chg (fun b=>ρ0 b≠0) w W:=HKw.out.chg.andThen c
  exact⟨c1.os,c1.tape,c1.output,c1.size,fun b hb _=>c1.block b hb (fun h=>by have:=HC.out b h;omega)⟩
 go_wp2_with fail
 go_loopw [14] (fun iv W=>∃j:Nat,j≤n∧iv=.int .i64 (j:Int)∧Hid (GoI1 E0 ρ0 W0 f ss r j W)) (fun iv _=>n-(intOf iv).toNat)
 case atStart=>exact⟨0,Nat.zero_le _,rfl,HI0⟩
 case round=>
  obtain⟨j,hj,rfl,hI⟩:=hrel
  obtain⟨stj,ρj,Ej,hE,hq,hs,hg,hnm,hp⟩:=hI.out
  clear hI
  have hET:Ej.T=E0.T:=hE.2.1
  by_cases hjn:j<n
  ·have hjs:j<ss.length:=by have:=HSd.out.1;have:=HN.out;omega
   have hjv:j<vs.length:=by have:=HN.out;omega
   rw[List.drop_eq_getElem_cons hjs] at hp
   obtain⟨r1,hs1,hbad,hok⟩:=prog_step hp
   have kw:Chg (fun b=>ρ0 b≠0) w wr:=HKw.out.chg.andThen hs.chg
   have hlow:∀b,ρ0 b≠0→¬b<w.heap.size:=fun b h hb=>by have:=HC.out b h;omega
   have hN:Ej.N=w.heap.size+1:=hE.2.2.2.2.1.trans HE0.out.1
   have hsd1:Sd wr (fun b=>b<Ej.N) vs[j] ss[j]:=((HSd.out.2 j _ _ (List.getElem?_eq_getElem hjv) (List.getElem?_eq_getElem hjs)).chg kw hlow).mono (fun b hb=>by have hb:b<w.heap.size:=hb;omega)
   obtain⟨T1,x1,fn1,hv1,hfn,hm1,hc1⟩:=HSt.out Ej ρj wr stj vs[j] ss[j] r1 hq hg hsd1 (HX.out _ (List.getElem_mem hjs)) hs1
   obtain⟨gS,rfl,hgl,hcell⟩:∃gS,aS=some ⟨gS,0,none⟩∧gS<wr.heap.size∧wr.cell? ⟨gS,j,none⟩=some (.iface T1 x1):=by
    have hro:=own_chg HRow.out kw (fun b e q=>hlow b q (own_blkV HRow.out e).2)
    rcases hro.2 with⟨e1,e2⟩|⟨g',cap',cur,e1,_⟩
    ·omega
    ·injection e1 with e3 e4 e5
     subst e3
     exact⟨g',rfl,(own_blkV hro (k:=g') rfl).2,(by have:=hro.cells (g:=g') rfl j _ (by rw[List.getElem?_eq_getElem hjv]);rw[hv1] at this;by_cases hj0:j=0<;>simpa[Addr.add,hj0] using this)⟩
   rw[hET] at hc1
   have HC1:Hid _:=hc1
   have HS:Hid _:=hs
   have HEs:Hid _:=hE
   have HBad:Hid _:=hbad
   have HNx:Hid (∀s1,r1=.ok s1→StG s1∧s1.names.length≤j+1∧progM f s1 (ss.drop (j+1))=some r):=fun s1 e1=>by
    obtain⟨g1,l1⟩:=HSg.out stj s1 ss[j] hg (by omega) (HX.out _ (List.getElem_mem hjs)) (by rw[hs1,e1])
    exact⟨g1,by omega,hok s1 e1⟩
   clear hc1 hs hE hbad hok hp hq hg hnm kw hlow hN hsd1 hv1 hET hs1 hjs hjv
   rcases hfn with rfl|rfl|rfl|rfl|rfl
   all_goals
    go_wp2_with fail
    refine Calls.mono HC1.out ?_
    rintro e w5 (⟨st5,ρ5,E5,hE5,e5,rfl,q5,s5⟩|⟨c,q,e5,rfl,c5⟩)
    rotate_left
    ·exact And.intro rfl ⟨.inr ⟨c,q,HBad.out _ e5,rfl,HKp.out _ (HS.out.bad c5)⟩,fun _ _ _ h=>by cases h⟩
    obtain⟨g5,l5,p5⟩:=HNx.out st5 e5
    have H5:Hid (GoI1 E0 ρ0 W0 f ss r (j+1) w5):=⟨st5,ρ5,E5,⟨hE5.1.trans HEs.out.1,hE5.2.1.trans HEs.out.2.1,hE5.2.2.1.trans HEs.out.2.2.1,hE5.2.2.2.1.trans HEs.out.2.2.2.1,hE5.2.2.2.2.1.trans HEs.out.2.2.2.2.1,hE5.2.2.2.2.2.trans HEs.out.2.2.2.2.2⟩,q5,HS.out.trans s5,g5,l5,p5⟩
    clear hE5 q5 s5 g5 l5 p5 hm1 hcell hgl
    go_wp2_with fail
    go_roundw
    case rel=>exact⟨j+1,by omega,by go_num,H5⟩
    case measure=>simp[intOf];omega
  ·obtain rfl:n=j:=by omega
   have hr2:r=.ok stj:=by
    rw[List.drop_of_length_le (by have:=HSd.out.1;have:=HN.out;omega),progM] at hp
    exact(Option.some.inj hp).symm
   obtain⟨u1,u3,vv,tv,xv,hB,hT⟩:=hq
   obtain⟨a1,d1,rfl⟩:=own_formG hB.i
   obtain⟨a2,d2,rfl⟩:=own_formG hB.b.own
   obtain⟨a3,d3,rfl⟩:=own_formG hB.o
   have t0:=hT.t0
   have c0:=hB.b.c0
   have c1:=hB.b.c1
   have c2:=hB.b.c2
   rw[hET] at t0
   have hrz:ρ0 w.heap.size=0:=by
    rcases Nat.eq_zero_or_pos (ρ0 w.heap.size) with e|e
    ·exact e
    ·have:=HC.out w.heap.size (by omega);omega
   obtain⟨s0,j0,j1,j2,f0,f1,f2⟩:=RB.keepC HRB3.out hs.chg (fun q=>q hrz)
   have HF:Hid _:=And.intro hB (And.intro hT (And.intro hs (And.intro hg hr2)))
   have HEs:Hid _:=hE
   have hPR:Ej.P≠w.heap.size:=fun e=>by
    have h1:=hB.rP
    rw[e,hs.ext _ (Nat.lt_of_lt_of_le (Nat.lt_succ_self _) (by have:=HRB3.out.sz;omega)),hrz] at h1
    omega
   clear hB hT hs hg hr2 hE hp hET hrz hnm
   go_wp2_with fail
   obtain⟨hB,hT,hs,hg,hr2⟩:=HF.out
   have hN:Ej.N=w.heap.size+1:=HEs.out.2.2.2.2.1.trans HE0.out.1
   obtain⟨y0,y1,y2⟩:=put3_0 wr w.heap.size _ _ _ j0 j1 j2 (.slice a1 stj.ins.length d1) (.slice a2 stj.vs.length d2) (.slice a3 stj.outs.length d3)
   have kp:=put3_kept wr w.heap.size (.slice a1 stj.ins.length d1) (.slice a2 stj.vs.length d2) (.slice a3 stj.outs.length d3)
   refine bodyPost_ret (v:=.agg #[.slice a1 stj.ins.length d1,.slice a2 stj.vs.length d2,.slice a3 stj.outs.length d3]) (by simp[results,Tryz.results35,go_sem,y0,y1,y2]) rfl ⟨.inl ⟨stj,_,_,_,hr2,rfl,?_,?_,?_,⟨ρj,hB.ri,hB.rR,hB.ro⟩,hg,?_⟩,?_⟩
   ·exact own_keepR (own_low hB.i (by omega)) kp (fun g e=>.inr (by have:=(own_blkV hB.i e).1;omega))
   ·exact own_keepR (own_low hB.b.own (by omega)) kp (fun g e=>.inr (by have:=(own_blkV hB.b.own e).1;omega))
   ·exact own_keepR (own_low hB.o (by omega)) kp (fun g e=>.inr (by have:=(own_blkV hB.o e).1;omega))
   ·exact(HKp.out wr hs.chg).new kp (Nat.le_refl _)
   ·intro x y z hxyz
    have hx1:Value.slice a1 stj.ins.length d1=x:=by injection hxyz with h;injection h with h;injection h with h;injection h with h
    rw[←hx1,hB.e1,HEs.out.2.2.2.2.2,HE0.out.2]
end Go.Proofs.YtgamjhpebmmjcaaGreatDoor
namespace Go.Proofs.YtgamjhpebmmjcaaGreatDoor
set_option maxRecDepth 100000
set_option maxHeartbeats 40000000
open Go.RowKit Flt
theorem go_gop {w:World}{r:Rs LSt}{e:Ending}{w':World}(h:GoO w r e w'):GoP w r e w':=by
 rcases h with⟨st,u1,vv,u3,hr,rfl,o1,o2,o3,hc,g,k⟩|⟨c,p,hr,rfl,k⟩
 ·obtain⟨a1,c1,a2,c2,a3,c3,rfl,rfl,rfl,hb,ho,hl⟩:=go_pj hr o1 o2 o3 hc g.g (Kept.refl 0 0 w) k
  subst hr
  exact .inl ⟨⟨a1,c1,a2,c2,a3,c3,rfl,hb,ho⟩,⟨rfl,rfl,hl⟩,k⟩
 ·exact .inr ⟨c,p,hr,rfl,k⟩
end Go.Proofs.YtgamjhpebmmjcaaGreatDoor
