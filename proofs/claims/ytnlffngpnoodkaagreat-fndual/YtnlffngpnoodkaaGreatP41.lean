import Derived.Test.YtnlffngpnoodkaaGreatP39
import Derived.BigRegion
namespace Go.Proofs.YtnlffngpnoodkaaGreat
set_option maxRecDepth 1000000
set_option maxHeartbeats 0
open Go.RowKit Flt
attribute [local go_sem] ic ib ia
variable {wr:World} {V gd go gz cap oz i n m k cb co K x:Nat} {A B C:Int} {vs:List Vl} {Z:Nat->Nat->Int} {T ex:Nat->Int} {dss zss:List (List Nat)} {Post:Act->World->Prop} {a b c e f g h j l p q r s t u w D G I J L N O P Q R S U X Y aa ab aI ad ae af aG ag aH ah ai aj ak aJ al aK am aL aM aN aO aP aQ aR aS aT aU aV aW aX aY aZ a0 a1 a2 a3 a4 a5 a6 a7 a8 a9 ba bb bc bd be bf bg bh bi bj bk bl bm bn bo bp aF bq br bs bt bu bv bw bx bz bA bB bC bD bE bF bG bH bI bJ bK bL bM bN bO bP bQ bR bS bT bU bV bW bX bY bZ b0 b2 b1 b3 b4 b5 b6 b7 b8 b9 ca cc cd ce cf cg ch ci cj ck cl cm cn cp cq cr cs ct cu cv cw cx cy cz cC cD cB cA cE cF cG cH cI cJ cK cL cM cN an cO cP cQ cR cS cT cU cV cW cX cY cZ c0 c1 c2 c3 c4 c5 c6 c7 c8 c9 da db dc dd de df dg dh di dj dk dl dm dp dq dr ds dt du dv ao dw ap dx dy dA dB dC dD dE dF dG dH dI dJ dO dK dP dM dL dQ dN dR dS aq ar au av aw ax ay az aA aB aC aD aE:Value}
def nZ:Nat->List Vl
 |0=>[⟨0,1,0,0,0,0⟩]
 |k+1=>nZ k++[⟨4,1,(k:Int),(k:Int),0,0⟩]
def pt (S:List Vl):Nat->List Vl
 |0=>S
 |k+1=>pt S k++[⟨6,1,((pt S k).length:Int)-1,0,0,0⟩]
theorem no:∀k,(nZ k).length=k+1
 |0=>rfl
 |k+1=>by rw[nZ,List.length_append,no k];rfl
theorem oR (S:List Vl):∀k,(pt S k).length=S.length+k
 |0=>rfl
 |k+1=>by rw[pt,List.length_append,oR S k];rfl
def Dq (w W:World)(P:Nat)(a:Option Addr)(n cap i:Nat)(bs:List Int)(Q:Nat)(S:List Vl):Prop:=
 ∃a1 c1 a2 c2 a3 c3 vs,vs.map sv=S/\Dy w W P a n cap i bs w.heap.size Q (.slice a1 ([1]:List Int).length c1) (.slice a2 vs.length c2) (.slice a3 ([]:List Int).length c3) [1] vs []
theorem Dq.of {w W:World}{P:Nat}{a:Option Addr}{bs:List Int}{Q:Nat}{a1 a2 a3:Option Addr}{c1 c2 n3 c3:Nat}{S:List Vl}{v s:Vl}(h:Dy w W P a n cap i bs w.heap.size Q (.slice a1 m c1) (.slice a2 (vs.length+1) c2) (.slice a3 n3 c3) [1] (vs++[v]) [])(hs:vs.map sv=S)(hv:sv v=s):Dq w W P a n cap i bs Q (S++[s]):=by
 have e1:m=([1]:List Int).length:=kq h.dg.r1
 have e3:n3=([]:List Int).length:=kq h.dg.r3
 subst e1 e3
 refine⟨a1,c1,a2,c2,a3,c3,vs++[v],by rw[List.map_append,hs,List.map_cons,List.map_nil,hv],?_⟩
 rw[List.length_append]
 exact h
theorem re {w W1:World}{P:Nat}{a:Option Addr}{bs:List Int}(hR:RdF w P a n cap i bs)(k1:Kept 0 0 ((w.alloc iw).alloc (.cells #[.int .i64 1] 3)) W1):
  Dy w ((W1.alloc (.cells #[.int .i64 0,.int .i64 1,.int .i64 0,.int .i64 0,.int .i64 0,.float .f64 0] 31)).alloc (.cells #[.slice (some ⟨w.heap.size+1,0,none⟩) 1 1,.slice (some ⟨W1.heap.size,0,none⟩) 1 1,.slice none 0 0] 26)) P a n cap i bs w.heap.size (W1.heap.size+1) (.slice (some ⟨w.heap.size+1,0,none⟩) 1 1) (.slice (some ⟨W1.heap.size,0,none⟩) 1 1) jw [1] [⟨0,1,0,0,0,0⟩] []:=by
 have ka:=hU 0 0 w iw
 have kb:=hU 0 0 (w.alloc iw) (.cells #[.int .i64 1] 3)
 have h1:(w.alloc iw).heap.size=w.heap.size+1:=by simp
 have h2:w.heap.size+2<=W1.heap.size:=by have:=k1.size;simp at this;omega
 have kc:=hU 0 0 W1 (.cells #[.int .i64 0,.int .i64 1,.int .i64 0,.int .i64 0,.int .i64 0,.float .f64 0] 31)
 have h3:(W1.alloc (.cells #[.int .i64 0,.int .i64 1,.int .i64 0,.int .i64 0,.int .i64 0,.float .f64 0] 31)).heap.size=W1.heap.size+1:=by simp
 have kd:=hU 0 0 (W1.alloc (.cells #[.int .i64 0,.int .i64 1,.int .i64 0,.int .i64 0,.int .i64 0,.float .f64 0] 31)) (.cells #[.slice (some ⟨w.heap.size+1,0,none⟩) 1 1,.slice (some ⟨W1.heap.size,0,none⟩) 1 1,.slice none 0 0] 26)
 have kw:=((ka.trans kb).trans k1).trans (kc.trans kd)
 have r1:=World.ownsRow_lit (base:=w.heap.size) (e:=3) (size:=1) (w.alloc iw) #[.int .i64 1] 1 (by omega) (by unfold maxLen;omega) rfl
 rw[h1] at r1
 have r2:=World.ownsRow_lit (base:=w.heap.size) (e:=31) (size:=6) W1 #[.int .i64 0,.int .i64 1,.int .i64 0,.int .i64 0,.int .i64 0,.float .f64 0] 1 (by omega) (by unfold maxLen;omega) rfl
 have hb:=kj (S:=λ_=>False) (W1.alloc (.cells #[.int .i64 0,.int .i64 1,.int .i64 0,.int .i64 0,.int .i64 0,.float .f64 0] 31)) _ #[.slice (some ⟨w.heap.size+1,0,none⟩) 1 1,.slice (some ⟨W1.heap.size,0,none⟩) 1 1,.slice none 0 0] 26 (Kept.refl 0 0 _).chg (λc=>c)
 rw[h3] at hb
 refine⟨hR.keep0 kw,⟨iC r1 (k1.trans (kc.trans kd)),iC r2 kd,World.ownsRow_nil _ _ _ _,?_,?_,?_,?_,kw.size⟩,⟨hb.2.2,hb.1 0,hb.1 1,hb.1 2,hb.2.1 0,hb.2.1 1,hb.2.1 2⟩,(i9 w).keep (kb.trans (k1.trans (kc.trans kd))),hR.lt,⟨Nat.le_refl _,by omega,by omega⟩,?_,iI kw⟩
 ·intro b h h'
  simp[Value.ownBlock] at h h'
  omega
 ·intro b h h'
  cases h'
 ·intro b h h'
  cases h'
 ·intro v hv
  simp only[List.mem_singleton] at hv
  subst hv
  exact Nat.zero_lt_succ _
 ·rintro b (h|h|h)
  ·simp[Value.ownBlock] at h;omega
  ·simp[Value.ownBlock] at h;omega
  ·cases h
theorem Bv {w:World}{P:Nat}{a:Option Addr}{bs:List Int}(hR:RdF w P a n cap i bs):
  Calls Tryz.prog 38 #[.pointer (some ⟨P,0,none⟩)] w (DgF w P a n cap bs [1] (pt (nZ (498+nv bs i%4)) (nv bs (ni bs i)%4)) [] (ni bs (ni bs i))):=by
 have hx:=iK hR.ys i
 have hx2:=iK hR.ys (ni bs i)
 have HR:Hid _:=hR
 clear hR
 go_enter Tryz.func38,Tryz.ntmps38
 go_wp2_with (first|(go_at_call 55;refine Calls.mono (lz _ _ _ _ _ _) ?_;rintro e W1 ⟨rfl,k1⟩))
 have HS0:Hid (Dy w ((W1.alloc (.cells #[.int .i64 0,.int .i64 1,.int .i64 0,.int .i64 0,.int .i64 0,.float .f64 0] 31)).alloc (.cells #[.slice (some ⟨w.heap.size+1,0,none⟩) 1 1,.slice (some ⟨W1.heap.size,0,none⟩) 1 1,.slice none 0 0] 26)) P a n cap i bs w.heap.size (W1.heap.size+1) (.slice (some ⟨w.heap.size+1,0,none⟩) 1 1) (.slice (some ⟨W1.heap.size,0,none⟩) 1 1) jw [1] [⟨0,1,0,0,0,0⟩] []):=re HR.out k1
 generalize (W1.alloc (.cells #[.int .i64 0,.int .i64 1,.int .i64 0,.int .i64 0,.int .i64 0,.float .f64 0] 31)).alloc (.cells #[.slice (some ⟨w.heap.size+1,0,none⟩) 1 1,.slice (some ⟨W1.heap.size,0,none⟩) 1 1,.slice none 0 0] 26)=W2 at HS0 ⊢
 generalize W1.heap.size+1=Q at HS0 ⊢
 clear k1 HR
 refine Calls.mono HS0.out.next ?_
 rintro e W3 ⟨rfl,D3⟩
 have HE:Hid (Dq w W3 P a n cap (ni bs i) bs Q (nZ 0)):=⟨_,_,_,_,_,_,[⟨0,1,0,0,0,0⟩],rfl,D3⟩
 have hn4:(498:Int)+(nv bs i:Int)%4=((498+nv bs i%4:Nat):Int):=by omega
 have hnn:498+nv bs i%4<=501:=by omega
 have HPost:Hid (∀m,m=498+nv bs i%4->∀e w',DgF w P a n cap bs [1] (pt (nZ m) (nv bs (ni bs i)%4)) [] (ni bs (ni bs i)) e w'->DgF w P a n cap bs [1] (pt (nZ (498+nv bs i%4)) (nv bs (ni bs i)%4)) [] (ni bs (ni bs i)) e w'):=λm e _ _ h=>by rw[<-e];exact h
 generalize hm:498+nv bs i%4=m at hn4 hnn
 have HMm:Hid _:=hm
 clear hm D3 HS0
 go_wp2_with fail
 try rw[hn4]
 clear hn4
 go_loopw [5] (λt W=>∃k:Nat,k<=m/\t=.int .i64 (k:Int)/\Hid (Dq w W P a n cap (ni bs i) bs Q (nZ k))) (λt _=>m-(intOf t).toNat)
 case atStart=>exact⟨0,Nat.zero_le _,rfl,HE.out⟩
 case round=>
  obtain⟨k,hk,rfl,hD⟩:=hrel
  clear HE
  by_cases hlt:k<m
  ·obtain⟨a1,c1,a2,c2,a3,c3,vs,hsv,D⟩:=hD.out
   rw[show([1]:List Int).length=1 from rfl,List.length_nil] at D
   have HL:Hid _:=no k
   have hvl:vs.length<=100000:=by have h9:=congrArg List.length hsv;rw[List.length_map,HL.out] at h9;omega
   have HD:Hid _:=D
   have HSV:Hid _:=hsv
   have HF:Hid (∀W5,Kept 0 0 wr W5->_):=λW5 k5=>HD.out.put k5 (ik 4 1 (k:Int) (k:Int) 0) (Nat.zero_lt_succ _) hvl
   obtain⟨_,z0,z1,z2,f0,f1,f2⟩:=D.bx
   clear D hsv hD
   go_wp2_with fail
   go_region_with (first|(go_at_call 50;refine Calls.mono (HF.out _ ((ie _).trans k5)) ?_;rintro e W9 ⟨g',cap',rfl,hrb,hfin⟩;obtain⟨_,r0,r1,r2,rf0,rf1,rf2⟩:=hrb)|(go_at_call 55;refine Calls.mono (lz _ _ _ _ _ _) ?_;rintro e W5 ⟨rfl,k5⟩;obtain⟨_,s0,s1,s2,_,_,_⟩:=(HD.out.keep ((ie _).trans k5)).bx))
   all_goals
    go_wp2_with fail
    go_roundw
    case rel=>exact⟨k+1,by omega,by go_num,Dq.of hfin HSV.out rfl⟩
    case measure=>simp[intOf];omega
  ·have e3:k=m:=by omega
   have HE:Hid (Dq w wr P a n cap (ni bs i) bs Q (nZ m)):=by rw[<-e3];exact hD.out
   have HL:Hid _:=no m
   clear hD e3
   obtain⟨a1,c1,a2,c2,a3,c3,vs,hsv,D⟩:=HE.out
   have HD:Hid _:=D
   have HSV:Hid _:=hsv
   clear D hsv HE
   go_wp2_with fail
   refine Calls.mono HD.out.next ?_
   rintro e W7 ⟨rfl,D7⟩
   have HE:Hid (Dq w W7 P a n cap (ni bs (ni bs i)) bs Q (pt (nZ m) 0)):=⟨a1,c1,a2,c2,a3,c3,vs,HSV.out,D7⟩
   have hx4:(nv bs (ni bs i):Int)%4=((nv bs (ni bs i)%4:Nat):Int):=by omega
   have h4:nv bs (ni bs i)%4<4:=Nat.mod_lt _ (by omega)
   generalize hm4:nv bs (ni bs i)%4=m4 at hx4 h4
   have HM4:Hid _:=hm4
   clear hm4 D7 HD
   go_wp2_with fail
   try rw[hx4]
   clear hx4
   go_loopw [7] (λt W=>∃k:Nat,k<=m4/\t=.int .i64 (k:Int)/\Hid (Dq w W P a n cap (ni bs (ni bs i)) bs Q (pt (nZ m) k))) (λt _=>m4-(intOf t).toNat)
   case atStart=>exact⟨0,Nat.zero_le _,rfl,HE.out⟩
   case round=>
    obtain⟨k4,hk4,rfl,hD⟩:=hrel
    clear HE
    by_cases hlt4:k4<m4
    ·obtain⟨a1,c1,a2,c2,a3,c3,vs,hsv,D⟩:=hD.out
     rw[show([1]:List Int).length=1 from rfl,List.length_nil] at D
     have HLb:Hid _:=oR (nZ m) k4
     have HVL:Hid (vs.length=(pt (nZ m) k4).length):=by show _=_;have h9:=congrArg List.length hsv;rw[List.length_map] at h9;exact h9
     have hvl:vs.length<=100000:=by have:=HVL.out;have:=HLb.out;have:=HL.out;omega
     have hvl1:1<=vs.length:=by have:=HVL.out;have:=HLb.out;have:=HL.out;omega
     have HD:Hid _:=D
     have HSV:Hid _:=hsv
     have HF:Hid (∀(W5:World) (q:Int),Kept 0 0 wr W5->_):=λW5 q k5=>HD.out.put k5 (ik 6 1 q 0 0) (Nat.zero_lt_succ _) hvl
     obtain⟨_,z0,z1,z2,f0,f1,f2⟩:=D.bx
     clear D hsv hD
     go_wp2_with fail
     go_region_with (first|(go_at_call 50;refine Calls.mono (HF.out _ _ ((ie _).trans k5)) ?_;rintro e W9 ⟨g',cap',rfl,hrb,hfin⟩;obtain⟨_,r0,r1,r2,rf0,rf1,rf2⟩:=hrb)|(go_at_call 55;refine Calls.mono (lz _ _ _ _ _ _) ?_;rintro e W5 ⟨rfl,k5⟩;obtain⟨_,s0,s1,s2,_,_,_⟩:=(HD.out.keep ((ie _).trans k5)).bx))
     all_goals
      go_wp2_with fail
      go_roundw
      case rel=>exact⟨k4+1,by omega,by go_num,Dq.of hfin HSV.out (by rw[<-HVL.out];show(⟨6,1,IntKind.i64.wrap ((vs.length:Int)-1),0,0,0⟩:Vl)=⟨6,1,(vs.length:Int)-1,0,0,0⟩;congr 1;rw[IntKind.wrap_i64];omega)⟩
      case measure=>simp[intOf];omega
    ·have e3:k4=m4:=by omega
     have HE:Hid (Dq w wr P a n cap (ni bs (ni bs i)) bs Q (pt (nZ m) m4)):=by rw[<-e3];exact hD.out
     clear hD e3
     obtain⟨a1,c1,a2,c2,a3,c3,vs,hsv,D⟩:=HE.out
     rw[show([1]:List Int).length=1 from rfl,List.length_nil] at D
     have HFin:Hid _:=D.fin hsv
     obtain⟨_,q0,q1,q2,_,_,_⟩:=D.bx
     obtain⟨_,r0,r1,r2,f0,f1,f2⟩:=D.rs
     clear D hsv HE
     go_wp2_with fail
     obtain⟨t0,t1,t2⟩:=iy wr w.heap.size _ _ _ r0 r1 r2 (.slice a1 1 c1) (.slice a2 vs.length c2) (.slice a3 0 c3)
     exact bodyPost_ret (v:=ip a1 1 c1 a2 vs.length c2 a3 0 c3) (by simp[results,Tryz.results38,go_sem,t0,t1,t2]) rfl (HPost.out m HMm.out.symm _ _ (by rw[HM4.out];exact HFin.out))
def rP:Code->Nat
 |.region i _ _=>i
 |.seq a _=>rP a
 |.block _ c=>rP c
 |.scope c=>rP c
 |.loop c=>rP c
 |_=>0
def px (n:Nat):Code->Option Code
 |.loop c=>if rP c=n then some c else px n c
 |.seq a b=>match px n a with
  |some c=>some c
  |none=>px n b
 |.cond _ a b=>match px n a with
  |some c=>some c
  |none=>px n b
 |.block _ c=>px n c
 |.scope c=>px n c
 |_=>none
def py (n:Nat):Code->Option Code
 |.cond t a b=>match t with
  |.tmp j=>if j=n then some (.cond (.tmp j) a b) else match py n a with
   |some c=>some c
   |none=>py n b
  |_=>none
 |.seq a b=>match py n a with
  |some c=>some c
  |none=>py n b
 |.block _ c=>py n c
 |.scope c=>py n c
 |.loop c=>py n c
 |_=>none
noncomputable def ml:Code:=(Tryz.f7.body.bind (px 14)).getD .skip
noncomputable def Fg (n:Nat):Code:=(Tryz.f7.body.bind (py n)).getD .skip
structure MF (vs:List Vl)(Z:Nat->Nat->Int)(T:Nat->Int)(x:Nat)(dss zss:List (List Nat))(i m n:Nat)(v:Vl)(ex:Nat->Int):Prop where
 hex:ex=lC vs Z (dz dss) x T i
 hv:vd vs i=v
 hn:ln vs i=n
 hlen:v.len=(n:Int)
 hn1:1<=n
 hn2:n<=1000
 hS:Shp vs i
 hwh:whO v.op
 hM:MvI vs Z T x dss i
 hzz:∀j,j<i->∀k,k<ln vs j->FZ ((zss.getD j []).getD k 0) (Z j k)/\-1000000<=Z j k/\Z j k<=1000000
 hzl:∀j,j<i->(zss.getD j []).length=ln vs j
 him:i<=m
 hm1:m<=1000
 hc:v.op=11\/v.op=12->0<=v.c
 hSA:∀j,j<i->1<=ln vs j/\ln vs j<=1000
structure MR (w:World)(V gd go gz oz i m n k:Nat)(v:Vl)(dss zss:List (List Nat))(ex:Nat->Int):Prop where
 v:At w V 0 v
 o:LL w gd go 0 i dss
 z:LL w gd gz oz m zss
 d:DP w gd n ex k
 nv:V<gd
theorem MR.keep {w w':World}{k':Nat}{v:Vl}(f:MR w V gd go gz oz i m n k v dss zss ex)(q:Kept gd (gd+1) w w')(hd:DP w' gd n ex k'):MR w' V gd go gz oz i m n k' v dss zss ex:=by
 have h:=DQ.lt f.d
 have hv:=f.nv
 exact⟨f.v.keep (by omega) q (.inl hv),f.o.keep q (.inl (Nat.le_refl _)) (Nat.le_of_lt h),f.z.keep q (.inl (Nat.le_refl _)) (Nat.le_of_lt h),hd,hv⟩
theorem mR (wr:World)(gd k r:Nat):Kept gd (gd+1) wr (wr.setCell ⟨gd,k,none⟩ (.float .f64 r)):=it (lo:=gd) (hi:=gd+1) wr ⟨gd,k,none⟩ (.float .f64 r) (.inl ⟨Nat.le_refl _,Nat.lt_succ_self _⟩)
theorem vx {a b:Int}(ha:-1000000<=a/\a<=1000000)(hb:-1000000<=b/\b<=1000000):-1000000000000<=a*b/\a*b<=1000000000000:=by
 have h1:a.natAbs<=1000000:=by omega
 have h2:b.natAbs<=1000000:=by omega
 have h3:(a*b).natAbs<=1000000*1000000:=by rw[Int.natAbs_mul];exact Nat.mul_le_mul h1 h2
 omega
theorem rQ {a b:Int}(ha:-1000000<=a/\a<=1000000)(hb:-1000000<=b/\b<=1000000):(a*b).natAbs<9007199254740992:=by
 have:=vx ha hb
 omega
theorem By {a b c d:Int}(ha:-1000000<=a/\a<=1000000)(hb:-1000000<=b/\b<=1000000)(hc:-1000000<=c/\c<=1000000)(hd:-1000000<=d/\d<=1000000):(a*b+c*d).natAbs<9007199254740992:=by
 have:=vx ha hb
 have:=vx hc hd
 omega
theorem MF.opA {op:Int}(F:MF vs Z T x dss zss i m n ⟨op,(n:Int),A,B,C,K⟩ ex)(h0:op≠0)(h1:op≠1):∃A':Nat,A=(A':Int)/\A'<i:=by
 have h:=F.hS.a
 rw[F.hv] at h
 have h':=h h0 h1
 simp only at h'
 exact⟨A.toNat,by omega,h'.2⟩
theorem Fh {E M W dn dz:Value}(F:MF vs Z T x dss zss i m n ⟨0,(n:Int),A,B,C,K⟩ ex)(hix:x<i)(H:MR wr V gd go gz oz i m n k ⟨0,(n:Int),A,B,C,K⟩ dss zss ex)(hk:k<n)
  (hP:∀(dM dN dO dP dQ dR dS dT dU dV dW dX dY dZ d0 d1 d2 d3 d4 d5 d6 d7 d8 d9 ea eb ec ed ee ef eg eh ei ej ek el em en eo ep eq er es et eu ev ew ey ez eA eB eC eD eE eF eG eH eI eJ eK eL eM eN eO eP eQ eR eS eT eU eV eW eX eY eZ e0 e1 e2 e3 e4 e5 e6 e7 e8 e9 fa fb fc fd fe ff fg fh fi fj fk fl fm fn fo fp fq fr fs ft fu fv fw fx fy fz fA fB fC fD fE fF fG fH fI fJ fK fL fM fN fO fP fQ fR fS fT fU fV fW fX fY fZ f0 f1 f2 f3 f4 f5 f6 f7 f8 f9 ga gb gc gf gg gh gi gj gk gl gm gn gp gq gr gs gu gv gw gx gy gA gB gC gD gE gF gG gH gI gJ gK gL gM gN gO gP gQ gR gS gT gU:Value) (W':World),DP W' gd n ex (k+1)->Kept gd (gd+1) wr W'->Post ⟨#[a,.slice (some ⟨gz,oz,none⟩) m cb,b,c,e,f,g,h,j,l,p,q,.slice (some ⟨go,0,none⟩) i co,r,.pointer (some ⟨V,0,none⟩),.slice (some ⟨gd,0,none⟩) n n,s,.int .i64 ((k:Int)+1),dM,dN,dO,t,u,w,D,E,G,I,J,L,M,N,O,P,Q,R,S,U,W,X,Y,aa,ab,ad,ae,af,ag,ah,ai,aj,ak,al,am,dP,dQ,dR,dS,dT,dU,dV,dW,dX,dY,dZ,d0,d1,d2,d3,d4,d5,d6,d7,d8,d9,ea,eb,ec,ed,ee,ef,eg,eh,ei,ej,ek,el,em,en,eo,ep,eq,er,es,et,eu,ev,ew,ey,ez,eA,eB,eC,eD,eE,eF,eG,eH,eI,eJ,eK,eL,eM,eN,eO,eP,eQ,eR,eS,eT,eU,eV,eW,eX,eY,eZ,e0,e1,e2,e3,e4,e5,e6,e7,e8,e9,fa,fb,fc,fd,fe,ff,fg,fh,fi,fj,fk,fl,fm,fn,fo,fp,fq,fr,fs,ft,fu,fv,fw,fx,fy,fz,fA,fB,fC,fD,fE,fF,fG,fH,fI,fJ,fK,fL,fM,fN,fO,fP,fQ,fR,fS,fT,fU,fV,fW,fX,fY,fZ,f0,f1,f2,f3,f4,f5,f6,f7,f8,f9,ga,gb,gc,gf,gg,gh,gi,gj,gk,gl,gm,gn,gp,gq,gr,gs,gu,gv,gw,gx,gy,gA,gB,gC,gD,gE,gF,gG,gH,gI,gJ,gK,gL,gM,gN,gO,gP,gQ,gR,gS,gT,gU,an,ao,ap,aq,ar,au,av,aw,ax,ay,az,aA,aB,aC,aD,aE],[]⟩ W'):
  Code.wp Tryz.prog ml (Exit.then Post λ_ _ _=>False) ⟨#[a,.slice (some ⟨gz,oz,none⟩) m cb,b,c,e,f,g,h,j,l,p,q,.slice (some ⟨go,0,none⟩) i co,r,.pointer (some ⟨V,0,none⟩),.slice (some ⟨gd,0,none⟩) n n,s,.int .i64 (k:Int),aF,aG,aH,t,u,w,D,E,G,I,J,L,M,N,O,P,Q,R,S,U,W,X,Y,aa,ab,ad,ae,af,ag,ah,ai,aj,ak,al,am,aI,aJ,aK,aL,aM,aN,aO,aP,aQ,aR,aS,aT,aU,aV,aW,aX,aY,aZ,a0,a1,a2,a3,a4,a5,a6,a7,a8,a9,ba,bb,bc,bd,be,bf,bg,bh,bi,bj,bk,bl,bm,bn,bo,bp,bq,br,bs,bt,bu,bv,bw,bx,bz,bA,bB,bC,bD,bE,bF,bG,bH,bI,bJ,bK,bL,bM,bN,bO,bP,bQ,bR,bS,bT,bU,bV,bW,bX,bY,bZ,b0,b1,b2,b3,b4,b5,b6,b7,b8,b9,ca,cc,cd,ce,cf,cg,ch,ci,cj,ck,cl,cm,cn,cp,cq,cr,cs,ct,cu,cv,cw,cx,cy,cz,cA,cB,cC,cD,cE,cF,cG,cH,cI,cJ,cK,cL,cM,cN,cO,cP,cQ,cR,cS,cT,cU,cV,cW,cX,cY,cZ,c0,c1,c2,c3,c4,c5,c6,c7,c8,c9,da,db,dc,dd,de,df,dg,dh,di,dj,dk,dl,dm,dn,dp,dq,dr,ds,dt,du,dv,dw,dx,dy,dz,dA,dB,dC,dD,dE,dF,dG,dH,dI,dJ,dK,dL,an,ao,ap,aq,ar,au,av,aw,ax,ay,az,aA,aB,aC,aD,aE],[]⟩ wr:=by
 have HF:Hid _:=F
 have HR:Hid _:=H
 have HP:Hid _:=hP
 have hn2:=F.hn2
 have hm1:=F.hm1
 have him:=F.him
 obtain⟨y,hy,_⟩:=DQ.cell H.d hk
 have hfz:=DQ.free H.d k
 have hgo:¬go=gd:=by have:=H.o.lt;omega
 have hgz:¬gz=gd:=by have:=H.z.lt;omega
 have hgv:¬V=gd:=by have:=H.nv;omega
 obtain⟨y0,y1,y2,y3,y4,y5⟩:=H.v
 simp only at y0 y1 y2 y3 y4 y5
 clear F hP
 have R1:Hid _:=DQ.next H.d (by rw[HF.out.hex,ma HF.out.hv hix];rfl)
 have R2:Hid _:=Kept.refl gd (gd+1) wr
 clear H
 conv=>arg 2;whnf
 all_goals
  go_wp2_with fail
  apply HP.out<;>first|exact R1.out|exact R2.out
theorem Fi {E M W dn dz:Value}(F:MF vs Z T x dss zss i m n ⟨1,(n:Int),A,B,C,K⟩ ex)(hix:x<i)(H:MR wr V gd go gz oz i m n k ⟨1,(n:Int),A,B,C,K⟩ dss zss ex)(hk:k<n)
  (hP:∀(dM dN dO dP dQ dR dS dT dU dV dW dX dY dZ d0 d1 d2 d3 d4 d5 d6 d7 d8 d9 ea eb ec ed ee ef eg eh ei ej ek el em en eo ep eq er es et eu ev ew ey ez eA eB eC eD eE eF eG eH eI eJ eK eL eM eN eO eP eQ eR eS eT eU eV eW eX eY eZ e0 e1 e2 e3 e4 e5 e6 e7 e8 e9 fa fb fc fd fe ff fg fh fi fj fk fl fm fn fo fp fq fr fs ft fu fv fw fx fy fz fA fB fC fD fE fF fG fH fI fJ fK fL fM fN fO fP fQ fR fS fT fU fV fW fX fY fZ f0 f1 f2 f3 f4 f5 f6 f7 f8 f9 ga gb gc gf gg gh gi gj gk gl gm gn gp gq gr gs gu gv gw gx gy gA gB gC gD gE gF gG gH gI gJ gK gL gM gN gO gP gQ gR gS gT gU:Value) (W':World),DP W' gd n ex (k+1)->Kept gd (gd+1) wr W'->Post ⟨#[a,.slice (some ⟨gz,oz,none⟩) m cb,b,c,e,f,g,h,j,l,p,q,.slice (some ⟨go,0,none⟩) i co,r,.pointer (some ⟨V,0,none⟩),.slice (some ⟨gd,0,none⟩) n n,s,.int .i64 ((k:Int)+1),dM,dN,dO,t,u,w,D,E,G,I,J,L,M,N,O,P,Q,R,S,U,W,X,Y,aa,ab,ad,ae,af,ag,ah,ai,aj,ak,al,am,dP,dQ,dR,dS,dT,dU,dV,dW,dX,dY,dZ,d0,d1,d2,d3,d4,d5,d6,d7,d8,d9,ea,eb,ec,ed,ee,ef,eg,eh,ei,ej,ek,el,em,en,eo,ep,eq,er,es,et,eu,ev,ew,ey,ez,eA,eB,eC,eD,eE,eF,eG,eH,eI,eJ,eK,eL,eM,eN,eO,eP,eQ,eR,eS,eT,eU,eV,eW,eX,eY,eZ,e0,e1,e2,e3,e4,e5,e6,e7,e8,e9,fa,fb,fc,fd,fe,ff,fg,fh,fi,fj,fk,fl,fm,fn,fo,fp,fq,fr,fs,ft,fu,fv,fw,fx,fy,fz,fA,fB,fC,fD,fE,fF,fG,fH,fI,fJ,fK,fL,fM,fN,fO,fP,fQ,fR,fS,fT,fU,fV,fW,fX,fY,fZ,f0,f1,f2,f3,f4,f5,f6,f7,f8,f9,ga,gb,gc,gf,gg,gh,gi,gj,gk,gl,gm,gn,gp,gq,gr,gs,gu,gv,gw,gx,gy,gA,gB,gC,gD,gE,gF,gG,gH,gI,gJ,gK,gL,gM,gN,gO,gP,gQ,gR,gS,gT,gU,an,ao,ap,aq,ar,au,av,aw,ax,ay,az,aA,aB,aC,aD,aE],[]⟩ W'):
  Code.wp Tryz.prog ml (Exit.then Post λ_ _ _=>False) ⟨#[a,.slice (some ⟨gz,oz,none⟩) m cb,b,c,e,f,g,h,j,l,p,q,.slice (some ⟨go,0,none⟩) i co,r,.pointer (some ⟨V,0,none⟩),.slice (some ⟨gd,0,none⟩) n n,s,.int .i64 (k:Int),aF,aG,aH,t,u,w,D,E,G,I,J,L,M,N,O,P,Q,R,S,U,W,X,Y,aa,ab,ad,ae,af,ag,ah,ai,aj,ak,al,am,aI,aJ,aK,aL,aM,aN,aO,aP,aQ,aR,aS,aT,aU,aV,aW,aX,aY,aZ,a0,a1,a2,a3,a4,a5,a6,a7,a8,a9,ba,bb,bc,bd,be,bf,bg,bh,bi,bj,bk,bl,bm,bn,bo,bp,bq,br,bs,bt,bu,bv,bw,bx,bz,bA,bB,bC,bD,bE,bF,bG,bH,bI,bJ,bK,bL,bM,bN,bO,bP,bQ,bR,bS,bT,bU,bV,bW,bX,bY,bZ,b0,b1,b2,b3,b4,b5,b6,b7,b8,b9,ca,cc,cd,ce,cf,cg,ch,ci,cj,ck,cl,cm,cn,cp,cq,cr,cs,ct,cu,cv,cw,cx,cy,cz,cA,cB,cC,cD,cE,cF,cG,cH,cI,cJ,cK,cL,cM,cN,cO,cP,cQ,cR,cS,cT,cU,cV,cW,cX,cY,cZ,c0,c1,c2,c3,c4,c5,c6,c7,c8,c9,da,db,dc,dd,de,df,dg,dh,di,dj,dk,dl,dm,dn,dp,dq,dr,ds,dt,du,dv,dw,dx,dy,dz,dA,dB,dC,dD,dE,dF,dG,dH,dI,dJ,dK,dL,an,ao,ap,aq,ar,au,av,aw,ax,ay,az,aA,aB,aC,aD,aE],[]⟩ wr:=by
 have HF:Hid _:=F
 have HR:Hid _:=H
 have HP:Hid _:=hP
 have hn2:=F.hn2
 have hm1:=F.hm1
 have him:=F.him
 obtain⟨y,hy,_⟩:=DQ.cell H.d hk
 have hfz:=DQ.free H.d k
 have hgo:¬go=gd:=by have:=H.o.lt;omega
 have hgz:¬gz=gd:=by have:=H.z.lt;omega
 have hgv:¬V=gd:=by have:=H.nv;omega
 obtain⟨y0,y1,y2,y3,y4,y5⟩:=H.v
 simp only at y0 y1 y2 y3 y4 y5
 clear F hP
 have R1:Hid _:=DQ.next H.d (by rw[HF.out.hex,ma HF.out.hv hix];rfl)
 have R2:Hid _:=Kept.refl gd (gd+1) wr
 clear H
 conv=>arg 2;whnf
 all_goals
  go_wp2_with fail
  apply HP.out<;>first|exact R1.out|exact R2.out
theorem Fj {E M W dn dz:Value}(F:MF vs Z T x dss zss i m n ⟨2,(n:Int),A,B,C,K⟩ ex)(hix:x<i)(H:MR wr V gd go gz oz i m n k ⟨2,(n:Int),A,B,C,K⟩ dss zss ex)(hk:k<n)
  (hP:∀(dT dU dV dW dX dY dZ d0 d1 d2 d3 d4 d5 d6 d7 d8 d9 ea eb ec ed ee ef eg eh ei ej ek el em en eo ep eq er es et eu ev ew ey ez eA eB eC eD eE eF eG eH eI eJ eK eL eM eN eO eP eQ eR eS eT eU eV eW eX eY eZ e0 e1 e2 e3 e4 e5 e6 e7 e8 e9 fb fc fd fe ff fg fh fi fj fk fl fm fn fo fp fq fs ft fu fv fw fx fy fz fA fB fC fD fE fF fG fH fI fJ fK fL fM fN fO fP fQ fR fS fT fU fV fW fX fY fZ f0 f1 f2 f3 f4 f5 f6 f7 f8 f9 ga gb gc gf gg gh gi gj gk gl gm gn gp gq gr gs gu gv gw gx gy gA gB gC gD gE gF gG gH gI gJ gK gL gM gN gO gP gQ gR gS gT gU gV gW gX gY gZ g0 g1 g2 g3:Value) (W':World),DP W' gd n ex (k+1)->Kept gd (gd+1) wr W'->Post ⟨#[a,.slice (some ⟨gz,oz,none⟩) m cb,b,c,e,f,g,h,j,l,p,q,.slice (some ⟨go,0,none⟩) i co,s,.pointer (some ⟨V,0,none⟩),.slice (some ⟨gd,0,none⟩) n n,t,.int .i64 ((k:Int)+1),dT,dU,dV,u,w,D,E,G,I,J,L,M,N,O,P,Q,R,S,U,W,X,Y,aa,ab,ad,ae,af,ag,ah,ai,aj,ak,al,am,an,dW,dX,dY,dZ,d0,d1,d2,d3,d4,d5,d6,d7,d8,d9,ea,eb,ec,ed,ee,ef,eg,eh,ei,ej,ek,el,em,en,eo,ep,eq,er,es,et,eu,ev,ew,ey,ez,eA,eB,eC,eD,eE,eF,eG,eH,eI,eJ,eK,eL,eM,eN,eO,eP,eQ,eR,eS,eT,eU,eV,eW,eX,eY,eZ,e0,e1,e2,e3,e4,e5,e6,e7,e8,e9,fb,fc,fd,fe,ff,fg,fh,fi,fj,fk,fl,fm,fn,fo,fp,fq,fs,ft,fu,fv,fw,fx,fy,fz,fA,fB,fC,fD,fE,fF,fG,fH,fI,fJ,fK,fL,fM,fN,fO,fP,fQ,fR,fS,fT,fU,fV,fW,fX,fY,fZ,f0,f1,f2,f3,f4,f5,f6,f7,f8,f9,ga,gb,gc,gf,gg,gh,gi,gj,gk,gl,gm,gn,gp,gq,gr,gs,gu,gv,gw,gx,gy,gA,gB,gC,gD,gE,gF,gG,gH,gI,gJ,gK,gL,gM,gN,gO,gP,gQ,gR,gS,gT,gU,gV,gW,gX,gY,gZ,g0,g1,g2,g3,ao,ap,aq,ar,au,av,aw,ax,ay,az,aA,aB,aC,aD,aE,aF],[]⟩ W'):
  Code.wp Tryz.prog ml (Exit.then Post λ_ _ _=>False) ⟨#[a,.slice (some ⟨gz,oz,none⟩) m cb,b,c,e,f,g,h,j,l,p,q,.slice (some ⟨go,0,none⟩) i co,s,.pointer (some ⟨V,0,none⟩),.slice (some ⟨gd,0,none⟩) n n,t,.int .i64 (k:Int),aG,aH,aI,u,w,D,E,G,I,J,L,M,N,O,P,Q,R,S,U,W,X,Y,aa,ab,ad,ae,af,ag,ah,ai,aj,ak,al,am,an,aJ,aK,aL,aM,aN,aO,aP,aQ,aR,aS,aT,aU,aV,aW,aX,aY,aZ,a0,a1,a2,a3,a4,a5,a6,a7,a8,a9,ba,bb,bc,bd,be,bf,bg,bh,bi,bj,bk,bl,bm,bn,bo,bp,bq,br,bs,bt,bu,bv,bw,bx,bz,bC,bD,bE,bF,bG,bH,bI,bJ,bK,bL,bM,bN,bO,bP,bQ,bR,bS,bT,bU,bV,bW,bX,bY,bZ,b2,b3,b4,b5,b6,b7,b8,b9,ca,cc,cd,ce,cf,cg,ch,ci,cj,ck,cl,cm,cn,cp,cq,cr,cs,ct,cu,cv,cw,cx,cy,cz,cC,cD,cE,cF,cG,cH,cI,cJ,cK,cL,cM,cN,cO,cP,cQ,cR,cS,cT,cU,cV,cW,cX,cY,cZ,c0,c1,c2,c3,c4,c5,c6,c7,c8,c9,da,db,dc,dd,de,df,dg,dh,di,dj,dk,dl,dm,dn,dp,dq,dr,ds,dt,du,dv,dw,dx,dy,dz,dA,dB,dC,dD,dE,dF,dG,dH,dI,dJ,dK,dL,dM,dN,dO,dP,dQ,dR,dS,ao,ap,aq,ar,au,av,aw,ax,ay,az,aA,aB,aC,aD,aE,aF],[]⟩ wr:=by
 have HF:Hid _:=F
 have HR:Hid _:=H
 have HP:Hid _:=hP
 have hn2:=F.hn2
 have hm1:=F.hm1
 have him:=F.him
 obtain⟨y,hy,_⟩:=DQ.cell H.d hk
 have hfz:=DQ.free H.d k
 have hgo:¬go=gd:=by have:=H.o.lt;omega
 have hgz:¬gz=gd:=by have:=H.z.lt;omega
 have hgv:¬V=gd:=by have:=H.nv;omega
 obtain⟨y0,y1,y2,y3,y4,y5⟩:=H.v
 simp only at y0 y1 y2 y3 y4 y5
 clear F hP
 obtain⟨A',rfl,ha1⟩:=HF.out.opA (by decide) (by decide)
 obtain⟨mA1,mA2⟩:=HF.out.hM A' ha1
 obtain⟨bA,oA,cA,gA1,gA2,gA3⟩:=H.o.at_ A' ha1
 rw[Nat.zero_add] at gA1
 have nA:¬bA=gd:=by omega
 have hS2:=HF.out.hS.two
 rw[HF.out.hv,HF.out.hn] at hS2
 obtain⟨b0,b1,la,lb⟩:=hS2 (.inl rfl)
 simp only at b0 b1 la lb
 obtain⟨B',rfl⟩:∃B':Nat,B=(B':Int):=⟨B.toNat,by omega⟩
 rw[Int.toNat_natCast] at la lb b1
 obtain⟨mB1,mB2⟩:=HF.out.hM B' b1
 obtain⟨bB,oB,cB,gB1,gB2,gB3⟩:=H.o.at_ B' b1
 rw[Nat.zero_add] at gB1
 have nB:¬bB=gd:=by omega
 obtain⟨mA3,mA4,_⟩:=mA2 k (by omega)
 obtain⟨mB3,mB4,_⟩:=mB2 k (by omega)
 have gA4:=gA3 k (by omega)
 have gB4:=gB3 k (by omega)
 rw[mA1,la] at gA1
 rw[mB1,lb] at gB1
 obtain⟨r,hr,fr⟩:=nj (op:=.add) (pj mA3 mB3 (by omega))
 have R1:Hid _:=DQ.next (DQ.put H.d hk hr) (by rw[HF.out.hex,ma HF.out.hv hix];rfl)
 have R2:Hid _:=mR wr gd k r
 clear mA1 mA2 mA3 mA4 mB1 mB2 mB3 mB4 gA3 gB3 la lb b0 hr H hS2
 generalize (dss.getD A' []).getD k 0=fa at gA4 fr
 generalize (dss.getD B' []).getD k 0=fb' at gB4 fr
 conv=>arg 2;whnf
 go_wp2_with fail
 go_region
 all_goals
  go_wp2_with fail
  apply HP.out
  ·first|exact DQ.drewN R1.out 1|exact DQ.drewN R1.out _
  ·first|exact Kept.drew R2.out|exact R2.out.trans (iq _ _ _ _)
theorem Fk {E M W dn dz:Value}(F:MF vs Z T x dss zss i m n ⟨3,(n:Int),A,B,C,K⟩ ex)(hix:x<i)(H:MR wr V gd go gz oz i m n k ⟨3,(n:Int),A,B,C,K⟩ dss zss ex)(hk:k<n)
  (hP:∀(dT dU dV dW dX dY dZ d0 d1 d2 d3 d4 d5 d6 d7 d8 d9 ea eb ec ed ee ef eg eh ei ej ek el em en eo ep eq er es et eu ev ew ey ez eA eB eC eD eE eF eG eH eI eJ eK eL eM eN eO eP eQ eR eS eT eU eV eW eX eY eZ e0 e1 e2 e3 e4 e5 e6 e7 e8 e9 fb fc fd fe ff fg fh fi fj fk fl fm fn fo fp fq fs ft fu fv fw fx fy fz fA fB fC fD fE fF fG fH fI fJ fK fL fM fN fO fP fQ fR fS fT fU fV fW fX fY fZ f0 f1 f2 f3 f4 f5 f6 f7 f8 f9 ga gb gc gf gg gh gi gj gk gl gm gn gp gq gr gs gu gv gw gx gy gA gB gC gD gE gF gG gH gI gJ gK gL gM gN gO gP gQ gR gS gT gU gV gW gX gY gZ g0 g1 g2 g3:Value) (W':World),DP W' gd n ex (k+1)->Kept gd (gd+1) wr W'->Post ⟨#[a,.slice (some ⟨gz,oz,none⟩) m cb,b,c,e,f,g,h,j,l,p,q,.slice (some ⟨go,0,none⟩) i co,s,.pointer (some ⟨V,0,none⟩),.slice (some ⟨gd,0,none⟩) n n,t,.int .i64 ((k:Int)+1),dT,dU,dV,u,w,D,E,G,I,J,L,M,N,O,P,Q,R,S,U,W,X,Y,aa,ab,ad,ae,af,ag,ah,ai,aj,ak,al,am,an,dW,dX,dY,dZ,d0,d1,d2,d3,d4,d5,d6,d7,d8,d9,ea,eb,ec,ed,ee,ef,eg,eh,ei,ej,ek,el,em,en,eo,ep,eq,er,es,et,eu,ev,ew,ey,ez,eA,eB,eC,eD,eE,eF,eG,eH,eI,eJ,eK,eL,eM,eN,eO,eP,eQ,eR,eS,eT,eU,eV,eW,eX,eY,eZ,e0,e1,e2,e3,e4,e5,e6,e7,e8,e9,fb,fc,fd,fe,ff,fg,fh,fi,fj,fk,fl,fm,fn,fo,fp,fq,fs,ft,fu,fv,fw,fx,fy,fz,fA,fB,fC,fD,fE,fF,fG,fH,fI,fJ,fK,fL,fM,fN,fO,fP,fQ,fR,fS,fT,fU,fV,fW,fX,fY,fZ,f0,f1,f2,f3,f4,f5,f6,f7,f8,f9,ga,gb,gc,gf,gg,gh,gi,gj,gk,gl,gm,gn,gp,gq,gr,gs,gu,gv,gw,gx,gy,gA,gB,gC,gD,gE,gF,gG,gH,gI,gJ,gK,gL,gM,gN,gO,gP,gQ,gR,gS,gT,gU,gV,gW,gX,gY,gZ,g0,g1,g2,g3,ao,ap,aq,ar,au,av,aw,ax,ay,az,aA,aB,aC,aD,aE,aF],[]⟩ W'):
  Code.wp Tryz.prog ml (Exit.then Post λ_ _ _=>False) ⟨#[a,.slice (some ⟨gz,oz,none⟩) m cb,b,c,e,f,g,h,j,l,p,q,.slice (some ⟨go,0,none⟩) i co,s,.pointer (some ⟨V,0,none⟩),.slice (some ⟨gd,0,none⟩) n n,t,.int .i64 (k:Int),aG,aH,aI,u,w,D,E,G,I,J,L,M,N,O,P,Q,R,S,U,W,X,Y,aa,ab,ad,ae,af,ag,ah,ai,aj,ak,al,am,an,aJ,aK,aL,aM,aN,aO,aP,aQ,aR,aS,aT,aU,aV,aW,aX,aY,aZ,a0,a1,a2,a3,a4,a5,a6,a7,a8,a9,ba,bb,bc,bd,be,bf,bg,bh,bi,bj,bk,bl,bm,bn,bo,bp,bq,br,bs,bt,bu,bv,bw,bx,bz,bC,bD,bE,bF,bG,bH,bI,bJ,bK,bL,bM,bN,bO,bP,bQ,bR,bS,bT,bU,bV,bW,bX,bY,bZ,b2,b3,b4,b5,b6,b7,b8,b9,ca,cc,cd,ce,cf,cg,ch,ci,cj,ck,cl,cm,cn,cp,cq,cr,cs,ct,cu,cv,cw,cx,cy,cz,cC,cD,cE,cF,cG,cH,cI,cJ,cK,cL,cM,cN,cO,cP,cQ,cR,cS,cT,cU,cV,cW,cX,cY,cZ,c0,c1,c2,c3,c4,c5,c6,c7,c8,c9,da,db,dc,dd,de,df,dg,dh,di,dj,dk,dl,dm,dn,dp,dq,dr,ds,dt,du,dv,dw,dx,dy,dz,dA,dB,dC,dD,dE,dF,dG,dH,dI,dJ,dK,dL,dM,dN,dO,dP,dQ,dR,dS,ao,ap,aq,ar,au,av,aw,ax,ay,az,aA,aB,aC,aD,aE,aF],[]⟩ wr:=by
 have HF:Hid _:=F
 have HR:Hid _:=H
 have HP:Hid _:=hP
 have hn2:=F.hn2
 have hm1:=F.hm1
 have him:=F.him
 obtain⟨y,hy,_⟩:=DQ.cell H.d hk
 have hfz:=DQ.free H.d k
 have hgo:¬go=gd:=by have:=H.o.lt;omega
 have hgz:¬gz=gd:=by have:=H.z.lt;omega
 have hgv:¬V=gd:=by have:=H.nv;omega
 obtain⟨y0,y1,y2,y3,y4,y5⟩:=H.v
 simp only at y0 y1 y2 y3 y4 y5
 clear F hP
 obtain⟨A',rfl,ha1⟩:=HF.out.opA (by decide) (by decide)
 obtain⟨mA1,mA2⟩:=HF.out.hM A' ha1
 obtain⟨bA,oA,cA,gA1,gA2,gA3⟩:=H.o.at_ A' ha1
 rw[Nat.zero_add] at gA1
 have nA:¬bA=gd:=by omega
 have hS2:=HF.out.hS.two
 rw[HF.out.hv,HF.out.hn] at hS2
 obtain⟨b0,b1,la,lb⟩:=hS2 (.inr (.inl rfl))
 simp only at b0 b1 la lb
 obtain⟨B',rfl⟩:∃B':Nat,B=(B':Int):=⟨B.toNat,by omega⟩
 rw[Int.toNat_natCast] at la lb b1
 obtain⟨mB1,mB2⟩:=HF.out.hM B' b1
 obtain⟨bB,oB,cB,gB1,gB2,gB3⟩:=H.o.at_ B' b1
 rw[Nat.zero_add] at gB1
 have nB:¬bB=gd:=by omega
 obtain⟨mA3,mA4,_⟩:=mA2 k (by omega)
 obtain⟨mB3,mB4,_⟩:=mB2 k (by omega)
 have gA4:=gA3 k (by omega)
 have gB4:=gB3 k (by omega)
 rw[mA1,la] at gA1
 rw[mB1,lb] at gB1
 obtain⟨r,hr,fr⟩:=nj (op:=.sub) (yt mA3 mB3 (by omega))
 have R1:Hid _:=DQ.next (DQ.put H.d hk hr) (by rw[HF.out.hex,ma HF.out.hv hix];rfl)
 have R2:Hid _:=mR wr gd k r
 clear mA1 mA2 mA3 mA4 mB1 mB2 mB3 mB4 gA3 gB3 la lb b0 hr H hS2
 generalize (dss.getD A' []).getD k 0=fa at gA4 fr
 generalize (dss.getD B' []).getD k 0=fb' at gB4 fr
 conv=>arg 2;whnf
 go_wp2_with fail
 go_region
 all_goals
  go_wp2_with fail
  apply HP.out
  ·first|exact DQ.drewN R1.out 1|exact DQ.drewN R1.out _
  ·first|exact Kept.drew R2.out|exact R2.out.trans (iq _ _ _ _)
theorem Fl {E M W dn dT dU dV:Value}(F:MF vs Z T x dss zss i m n ⟨4,(n:Int),A,B,C,K⟩ ex)(hix:x<i)(H:MR wr V gd go gz oz i m n k ⟨4,(n:Int),A,B,C,K⟩ dss zss ex)(hk:k<n)
  (hP:∀(dW dX dY dZ d0 d1 d2 d3 d4 d5 d6 d7 d8 d9 ea eb ec ed ee ef eg eh ei ej ek el em en eo ep eq er es et eu ev ew ey ez eA eB eC eD eE eF eG eH eI eJ eK eL eM eN eO eP eQ eR eS eT eU eV eW eX eY eZ e0 e1 e2 e3 e4 e5 e6 e7 e8 e9 fb fc fd fe ff fg fh fi fj fk fl fm fn fo fs ft fu fv fw fx fy fz fA fB fC fD fE fF fG fH fI fJ fK fL fM fN fO fP fQ fR fS fT fU fV fW fX fY fZ f0 f1 f2 f3 f4 f5 f6 f7 f8 f9 ga gb gc gf gg gh gi gj gk gl gm gn gp gq gr gs gu gv gw gx gy gA gB gC gD gE gF gG gH gI gJ gK gL gM gN gO gP gQ gR gS gT gU gV gW gX gY gZ g0 g1 g2 g3 g4 g5 g6 g7 g8:Value) (W':World),DP W' gd n ex (k+1)->Kept gd (gd+1) wr W'->Post ⟨#[a,.slice (some ⟨gz,oz,none⟩) m cb,b,c,e,f,g,h,j,l,s,t,.slice (some ⟨go,0,none⟩) i co,u,.pointer (some ⟨V,0,none⟩),.slice (some ⟨gd,0,none⟩) n n,w,.int .i64 ((k:Int)+1),dW,dX,dY,D,E,G,I,J,L,M,N,O,P,Q,R,S,U,W,X,Y,aa,ab,ad,ae,af,ag,ah,ai,aj,ak,al,am,an,ao,ap,dZ,d0,d1,d2,d3,d4,d5,d6,d7,d8,d9,ea,eb,ec,ed,ee,ef,eg,eh,ei,ej,ek,el,em,en,eo,ep,eq,er,es,et,eu,ev,ew,ey,ez,eA,eB,eC,eD,eE,eF,eG,eH,eI,eJ,eK,eL,eM,eN,eO,eP,eQ,eR,eS,eT,eU,eV,eW,eX,eY,eZ,e0,e1,e2,e3,e4,e5,e6,e7,e8,e9,fb,fc,fd,fe,ff,fg,fh,fi,fj,fk,fl,fm,fn,fo,fs,ft,fu,fv,fw,fx,fy,fz,fA,fB,fC,fD,fE,fF,fG,fH,fI,fJ,fK,fL,fM,fN,fO,fP,fQ,fR,fS,fT,fU,fV,fW,fX,fY,fZ,f0,f1,f2,f3,f4,f5,f6,f7,f8,f9,ga,gb,gc,gf,gg,gh,gi,gj,gk,gl,gm,gn,gp,gq,gr,gs,gu,gv,gw,gx,gy,gA,gB,gC,gD,gE,gF,gG,gH,gI,gJ,gK,gL,gM,gN,gO,gP,gQ,gR,gS,gT,gU,gV,gW,gX,gY,gZ,g0,g1,g2,g3,g4,g5,g6,g7,g8,aq,ar,au,av,aw,ax,ay,az,aA,aB,aC,aD,aE,aF,aG,aH],[]⟩ W'):
  Code.wp Tryz.prog ml (Exit.then Post λ_ _ _=>False) ⟨#[a,.slice (some ⟨gz,oz,none⟩) m cb,b,c,e,f,g,h,j,l,s,t,.slice (some ⟨go,0,none⟩) i co,u,.pointer (some ⟨V,0,none⟩),.slice (some ⟨gd,0,none⟩) n n,w,.int .i64 (k:Int),aI,aJ,aK,D,E,G,I,J,L,M,N,O,P,Q,R,S,U,W,X,Y,aa,ab,ad,ae,af,ag,ah,ai,aj,ak,al,am,an,ao,ap,aL,aM,aN,aO,aP,aQ,aR,aS,aT,aU,aV,aW,aX,aY,aZ,a0,a1,a2,a3,a4,a5,a6,a7,a8,a9,ba,bb,bc,bd,be,bf,bg,bh,bi,bj,bk,bl,bm,bn,bo,bp,bq,br,bs,bt,bu,bv,bw,bx,bz,bC,bD,bE,bF,bG,bH,bI,bJ,bK,bL,bM,bN,bO,bP,bQ,bR,bS,bT,bU,bV,bW,bX,bY,bZ,b2,b3,b4,b5,b6,b7,b8,b9,ca,cc,cd,ce,cf,cg,ch,ci,cj,ck,cl,cm,cn,cp,cq,cr,cs,ct,cu,cv,cw,cx,cy,cz,cC,cD,cE,cF,cG,cH,cI,cJ,cK,cL,cM,cN,cO,cP,cQ,cR,cS,cT,cU,cV,cW,cX,cY,cZ,c0,c1,c2,c3,c4,c5,c6,c7,c8,c9,da,db,dc,dd,de,df,dg,dh,di,dj,dk,dl,dm,dn,dp,dq,dr,ds,dt,du,dv,dw,dx,dy,dA,dB,dC,dD,dE,dF,dG,dH,dI,dJ,dK,dL,dM,dN,dO,dP,dQ,dR,dS,dT,dU,dV,aq,ar,au,av,aw,ax,ay,az,aA,aB,aC,aD,aE,aF,aG,aH],[]⟩ wr:=by
 have HF:Hid _:=F
 have HR:Hid _:=H
 have HP:Hid _:=hP
 have hn2:=F.hn2
 have hm1:=F.hm1
 have him:=F.him
 obtain⟨y,hy,_⟩:=DQ.cell H.d hk
 have hfz:=DQ.free H.d k
 have hgo:¬go=gd:=by have:=H.o.lt;omega
 have hgz:¬gz=gd:=by have:=H.z.lt;omega
 have hgv:¬V=gd:=by have:=H.nv;omega
 obtain⟨y0,y1,y2,y3,y4,y5⟩:=H.v
 simp only at y0 y1 y2 y3 y4 y5
 clear F hP
 obtain⟨A',rfl,ha1⟩:=HF.out.opA (by decide) (by decide)
 obtain⟨mA1,mA2⟩:=HF.out.hM A' ha1
 obtain⟨bA,oA,cA,gA1,gA2,gA3⟩:=H.o.at_ A' ha1
 rw[Nat.zero_add] at gA1
 have nA:¬bA=gd:=by omega
 have hS2:=HF.out.hS.two
 rw[HF.out.hv,HF.out.hn] at hS2
 obtain⟨b0,b1,la,lb⟩:=hS2 (.inr (.inr rfl))
 simp only at b0 b1 la lb
 obtain⟨B',rfl⟩:∃B':Nat,B=(B':Int):=⟨B.toNat,by omega⟩
 rw[Int.toNat_natCast] at la lb b1
 obtain⟨mB1,mB2⟩:=HF.out.hM B' b1
 obtain⟨bB,oB,cB,gB1,gB2,gB3⟩:=H.o.at_ B' b1
 rw[Nat.zero_add] at gB1
 have nB:¬bB=gd:=by omega
 obtain⟨mA3,mA4,_⟩:=mA2 k (by omega)
 obtain⟨mB3,mB4,_⟩:=mB2 k (by omega)
 have gA4:=gA3 k (by omega)
 have gB4:=gB3 k (by omega)
 rw[mA1,la] at gA1
 rw[mB1,lb] at gB1
 obtain⟨zA3,zA4⟩:=HF.out.hzz A' ha1 k (by omega)
 obtain⟨zB3,zB4⟩:=HF.out.hzz B' b1 k (by omega)
 have zlA:=HF.out.hzl A' ha1
 have zlB:=HF.out.hzl B' b1
 obtain⟨bA',oA',cA',hA1,hA2,hA3⟩:=H.z.at_ A' (by omega)
 obtain⟨bB',oB',cB',hB1,hB2,hB3⟩:=H.z.at_ B' (by omega)
 have hA4:=hA3 k (by omega)
 have hB4:=hB3 k (by omega)
 rw[zlA,la] at hA1
 rw[zlB,lb] at hB1
 have w1:(dz dss A' k*Z B' k).natAbs<9007199254740992:=rQ mA4 zB4
 have w2:(Z A' k*dz dss B' k).natAbs<9007199254740992:=rQ zA4 mB4
 have w3:(dz dss A' k*Z B' k+Z A' k*dz dss B' k).natAbs<9007199254740992:=By mA4 zB4 zA4 mB4
 obtain⟨p,hp,fp⟩:=nj (op:=.mul) (sU mA3 zB3 w1)
 obtain⟨q,hq,fq⟩:=nj (op:=.mul) (sU zA3 mB3 w2)
 obtain⟨r,hr,fr⟩:=nj (op:=.add) (pj hp hq w3)
 have R1:Hid _:=DQ.next (DQ.put H.d hk hr) (by rw[HF.out.hex,ma HF.out.hv hix];rfl)
 have R2:Hid _:=mR wr gd k r
 have him2:A'<m:=by omega
 have him3:B'<m:=by omega
 clear mA1 mA2 mA3 mA4 mB1 mB2 mB3 mB4 gA3 gB3 la lb b0 hr H hS2 zA3 zA4 zB3 zB4 zlA zlB hA3 hB3 w1 w2 w3 hp hq
 generalize (dss.getD A' []).getD k 0=fa at gA4 fp
 generalize (dss.getD B' []).getD k 0=fb' at gB4 fq
 generalize (zss.getD A' []).getD k 0=va at hA4 fq
 generalize (zss.getD B' []).getD k 0=vb at hB4 fp
 have i1:(A':Int)<(i:Int):=by omega
 have i2:(B':Int)<(i:Int):=by omega
 have i3:(A':Int)<(m:Int):=by omega
 have i4:(B':Int)<(m:Int):=by omega
 have i5:(k:Int)<(n:Int):=by omega
 conv=>arg 2;whnf
 go_wp2_with fail
 go_quiet (fail)
 go_wp2_with fail
 go_quiet (fail)
 all_goals
  go_wp2_with fail
  apply HP.out
  ·first|exact DQ.drewN R1.out 1|exact DQ.drewN R1.out _
  ·first|exact Kept.drew R2.out|exact R2.out.trans (iq _ _ _ _)
theorem Fm {E M W dn dz:Value}(F:MF vs Z T x dss zss i m n ⟨6,(n:Int),A,B,C,K⟩ ex)(hix:x<i)(H:MR wr V gd go gz oz i m n k ⟨6,(n:Int),A,B,C,K⟩ dss zss ex)(hk:k<n)
  (hP:∀(dO dP dQ dR dS dT dU dV dW dX dY dZ d0 d1 d2 d3 d4 d5 d6 d7 d8 d9 ea eb ec ed ee ef eg eh ei ej ek el em en eo ep eq er es et eu ev ew ey ez eA eB eC eD eE eF eG eH eI eJ eK eL eM eN eO eP eQ eR eS eT eU eV eW eX eY eZ e0 e1 e2 e3 e4 e5 e6 e7 e8 e9 fb fc fd fe ff fg fh fi fj fk fl fm fn fo fp fq fr fs ft fu fv fw fx fy fz fA fB fC fD fE fF fG fH fI fJ fK fL fM fN fO fP fQ fR fS fT fU fV fW fX fY fZ f0 f1 f2 f4 f5 f6 f7 f8 f9 ga gb gc gf gg gh gi gj gk gl gm gn gp gq gr gs gu gv gw gx gy gA gB gC gD gE gF gG gH gI gJ gK gL gM gN gO gP gQ gR gS gT gU gV gW gX gY:Value) (W':World),DP W' gd n ex (k+1)->Kept gd (gd+1) wr W'->Post ⟨#[a,.slice (some ⟨gz,oz,none⟩) m cb,b,c,e,f,g,h,j,l,p,q,.slice (some ⟨go,0,none⟩) i co,r,.pointer (some ⟨V,0,none⟩),.slice (some ⟨gd,0,none⟩) n n,s,.int .i64 ((k:Int)+1),dO,dP,dQ,t,u,w,D,E,G,I,J,L,M,N,O,P,Q,R,S,U,W,X,Y,aa,ab,ad,ae,af,ag,ah,ai,aj,ak,al,am,dR,dS,dT,dU,dV,dW,dX,dY,dZ,d0,d1,d2,d3,d4,d5,d6,d7,d8,d9,ea,eb,ec,ed,ee,ef,eg,eh,ei,ej,ek,el,em,en,eo,ep,eq,er,es,et,eu,ev,ew,ey,ez,eA,eB,eC,eD,eE,eF,eG,eH,eI,eJ,eK,eL,eM,eN,eO,eP,eQ,eR,eS,eT,eU,eV,eW,eX,eY,eZ,e0,e1,e2,e3,e4,e5,e6,e7,e8,e9,fb,fc,fd,fe,ff,fg,fh,fi,fj,fk,fl,fm,fn,fo,fp,fq,fr,fs,ft,fu,fv,fw,fx,fy,fz,fA,fB,fC,fD,fE,fF,fG,fH,fI,fJ,fK,fL,fM,fN,fO,fP,fQ,fR,fS,fT,fU,fV,fW,fX,fY,fZ,f0,f1,f2,f4,f5,f6,f7,f8,f9,ga,gb,gc,gf,gg,gh,gi,gj,gk,gl,gm,gn,gp,gq,gr,gs,gu,gv,gw,gx,gy,gA,gB,gC,gD,gE,gF,gG,gH,gI,gJ,gK,gL,gM,gN,gO,gP,gQ,gR,gS,gT,gU,gV,gW,gX,gY,an,ao,ap,aq,ar,au,av,aw,ax,ay,az,aA,aB,aC,aD,aE],[]⟩ W'):
  Code.wp Tryz.prog ml (Exit.then Post λ_ _ _=>False) ⟨#[a,.slice (some ⟨gz,oz,none⟩) m cb,b,c,e,f,g,h,j,l,p,q,.slice (some ⟨go,0,none⟩) i co,r,.pointer (some ⟨V,0,none⟩),.slice (some ⟨gd,0,none⟩) n n,s,.int .i64 (k:Int),aF,aG,aH,t,u,w,D,E,G,I,J,L,M,N,O,P,Q,R,S,U,W,X,Y,aa,ab,ad,ae,af,ag,ah,ai,aj,ak,al,am,aI,aJ,aK,aL,aM,aN,aO,aP,aQ,aR,aS,aT,aU,aV,aW,aX,aY,aZ,a0,a1,a2,a3,a4,a5,a6,a7,a8,a9,ba,bb,bc,bd,be,bf,bg,bh,bi,bj,bk,bl,bm,bn,bo,bp,bq,br,bs,bt,bu,bv,bw,bx,bz,bB,bC,bD,bE,bF,bG,bH,bI,bJ,bK,bL,bM,bN,bO,bP,bQ,bR,bS,bT,bU,bV,bW,bX,bY,bZ,b0,b1,b2,b3,b4,b5,b6,b7,b8,b9,ca,cc,cd,ce,cf,cg,ch,ci,cj,ck,cl,cm,cn,cp,cq,cr,cs,ct,cu,cv,cw,cx,cy,cz,cB,cC,cD,cE,cF,cG,cH,cI,cJ,cK,cL,cM,cN,cO,cP,cQ,cR,cS,cT,cU,cV,cW,cX,cY,cZ,c0,c1,c2,c3,c4,c5,c6,c7,c8,c9,da,db,dc,dd,de,df,dg,dh,di,dj,dk,dl,dm,dn,dp,dq,dr,ds,dt,du,dv,dw,dx,dy,dz,dA,dB,dC,dD,dE,dF,dG,dH,dI,dJ,dK,dL,dM,dN,an,ao,ap,aq,ar,au,av,aw,ax,ay,az,aA,aB,aC,aD,aE],[]⟩ wr:=by
 have HF:Hid _:=F
 have HR:Hid _:=H
 have HP:Hid _:=hP
 have hn2:=F.hn2
 have hm1:=F.hm1
 have him:=F.him
 obtain⟨y,hy,_⟩:=DQ.cell H.d hk
 have hfz:=DQ.free H.d k
 have hgo:¬go=gd:=by have:=H.o.lt;omega
 have hgz:¬gz=gd:=by have:=H.z.lt;omega
 have hgv:¬V=gd:=by have:=H.nv;omega
 obtain⟨y0,y1,y2,y3,y4,y5⟩:=H.v
 simp only at y0 y1 y2 y3 y4 y5
 clear F hP
 obtain⟨A',rfl,ha1⟩:=HF.out.opA (by decide) (by decide)
 obtain⟨mA1,mA2⟩:=HF.out.hM A' ha1
 obtain⟨bA,oA,cA,gA1,gA2,gA3⟩:=H.o.at_ A' ha1
 rw[Nat.zero_add] at gA1
 have nA:¬bA=gd:=by omega
 have hS2:=HF.out.hS.neg
 rw[HF.out.hv,HF.out.hn] at hS2
 have la:=hS2 rfl
 simp only[Int.toNat_natCast] at la
 obtain⟨mA3,mA4,_⟩:=mA2 k (by omega)
 have gA4:=gA3 k (by omega)
 rw[mA1,la] at gA1
 have f3:=oJ
 have R1:Hid _:=DQ.next (DQ.put H.d hk (vh mA3)) (by rw[HF.out.hex,ma HF.out.hv hix];rfl)
 have R2:Hid _:=mR wr gd k (Op.negFloat .f64 ((dss.getD A' []).getD k 0))
 clear mA1 mA2 mA3 mA4 gA3 la H hS2
 generalize (dss.getD A' []).getD k 0=fa at gA4 R1 R2
 conv=>arg 2;whnf
 all_goals
  go_wp2_with fail
  apply HP.out<;>first|exact R1.out|exact R2.out
theorem D4 {E M W dn dz:Value}(F:MF vs Z T x dss zss i m n ⟨10,(n:Int),A,B,C,K⟩ ex)(hix:x<i)(H:MR wr V gd go gz oz i m n k ⟨10,(n:Int),A,B,C,K⟩ dss zss ex)(hk:k<n)
  (hP:∀(dO dP dQ dR dS dT dU dV dW dX dY dZ d0 d1 d2 d3 d4 d5 d6 d7 d8 d9 ea eb ec ed ee ef eg eh ei ej ek el em en eo ep eq er es et eu ev ew ey ez eA eB eC eD eE eF eG eH eI eJ eK eL eM eN eO eP eQ eR eS eT eU eV eW eX eY eZ e0 e1 e2 e3 e4 e5 e6 e7 e8 e9 fb fc fd fe ff fg fh fi fj fk fl fm fn fo fp fq fr fs ft fu fv fw fx fy fz fA fB fC fD fE fF fG fH fI fJ fK fL fM fN fO fP fQ fR fS fT fU fV fW fX fY fZ f0 f1 f2 f3 f4 f5 f6 f7 f8 f9 ga gb gc gf gg gh gi gj gk gl gm gn gp gq gr gs gu gv gw gx gy gA gB gC gD gE gF gG gH gI gJ gK gL gM gN gO gP gQ gR gS gT gU gV gW gX:Value) (W':World),DP W' gd n ex (k+1)->Kept gd (gd+1) wr W'->Post ⟨#[a,.slice (some ⟨gz,oz,none⟩) m cb,b,c,e,f,g,h,j,l,p,q,.slice (some ⟨go,0,none⟩) i co,r,.pointer (some ⟨V,0,none⟩),.slice (some ⟨gd,0,none⟩) n n,s,.int .i64 ((k:Int)+1),dO,dP,dQ,t,u,w,D,E,G,I,J,L,M,N,O,P,Q,R,S,U,W,X,Y,aa,ab,ad,ae,af,ag,ah,ai,aj,ak,al,am,dR,dS,dT,dU,dV,dW,dX,dY,dZ,d0,d1,d2,d3,d4,d5,d6,d7,d8,d9,ea,eb,ec,ed,ee,ef,eg,eh,ei,ej,ek,el,em,en,eo,ep,eq,er,es,et,eu,ev,ew,ey,ez,eA,eB,eC,eD,eE,eF,eG,eH,eI,eJ,eK,eL,eM,eN,eO,eP,eQ,eR,eS,eT,eU,eV,eW,eX,eY,eZ,e0,e1,e2,e3,e4,e5,e6,e7,e8,e9,fb,fc,fd,fe,ff,fg,fh,fi,fj,fk,fl,fm,fn,fo,fp,fq,fr,fs,ft,fu,fv,fw,fx,fy,fz,fA,fB,fC,fD,fE,fF,fG,fH,fI,fJ,fK,fL,fM,fN,fO,fP,fQ,fR,fS,fT,fU,fV,fW,fX,fY,fZ,f0,f1,f2,f3,f4,f5,f6,f7,f8,f9,ga,gb,gc,gf,gg,gh,gi,gj,gk,gl,gm,gn,gp,gq,gr,gs,gu,gv,gw,gx,gy,gA,gB,gC,gD,gE,gF,gG,gH,gI,gJ,gK,gL,gM,gN,gO,gP,gQ,gR,gS,gT,gU,gV,gW,gX,an,ao,ap,aq,ar,au,av,aw,ax,ay,az,aA,aB,aC,aD,aE],[]⟩ W'):
  Code.wp Tryz.prog ml (Exit.then Post λ_ _ _=>False) ⟨#[a,.slice (some ⟨gz,oz,none⟩) m cb,b,c,e,f,g,h,j,l,p,q,.slice (some ⟨go,0,none⟩) i co,r,.pointer (some ⟨V,0,none⟩),.slice (some ⟨gd,0,none⟩) n n,s,.int .i64 (k:Int),aF,aG,aH,t,u,w,D,E,G,I,J,L,M,N,O,P,Q,R,S,U,W,X,Y,aa,ab,ad,ae,af,ag,ah,ai,aj,ak,al,am,aI,aJ,aK,aL,aM,aN,aO,aP,aQ,aR,aS,aT,aU,aV,aW,aX,aY,aZ,a0,a1,a2,a3,a4,a5,a6,a7,a8,a9,ba,bb,bc,bd,be,bf,bg,bh,bi,bj,bk,bl,bm,bn,bo,bp,bq,br,bs,bt,bu,bv,bw,bx,bz,bB,bC,bD,bE,bF,bG,bH,bI,bJ,bK,bL,bM,bN,bO,bP,bQ,bR,bS,bT,bU,bV,bW,bX,bY,bZ,b0,b1,b2,b3,b4,b5,b6,b7,b8,b9,ca,cc,cd,ce,cf,cg,ch,ci,cj,ck,cl,cm,cn,cp,cq,cr,cs,ct,cu,cv,cw,cx,cy,cz,cB,cC,cD,cE,cF,cG,cH,cI,cJ,cK,cL,cM,cN,cO,cP,cQ,cR,cS,cT,cU,cV,cW,cX,cY,cZ,c0,c1,c2,c3,c4,c5,c6,c7,c8,c9,da,db,dc,dd,de,df,dg,dh,di,dj,dk,dl,dm,dn,dp,dq,dr,ds,dt,du,dv,dw,dx,dy,dz,dA,dB,dC,dD,dE,dF,dG,dH,dI,dJ,dK,dL,dM,dN,an,ao,ap,aq,ar,au,av,aw,ax,ay,az,aA,aB,aC,aD,aE],[]⟩ wr:=by
 have HF:Hid _:=F
 have HR:Hid _:=H
 have HP:Hid _:=hP
 have hn2:=F.hn2
 have hm1:=F.hm1
 have him:=F.him
 obtain⟨y,hy,_⟩:=DQ.cell H.d hk
 have hfz:=DQ.free H.d k
 have hgo:¬go=gd:=by have:=H.o.lt;omega
 have hgz:¬gz=gd:=by have:=H.z.lt;omega
 have hgv:¬V=gd:=by have:=H.nv;omega
 obtain⟨y0,y1,y2,y3,y4,y5⟩:=H.v
 simp only at y0 y1 y2 y3 y4 y5
 clear F hP
 obtain⟨A',rfl,ha1⟩:=HF.out.opA (by decide) (by decide)
 obtain⟨mA1,mA2⟩:=HF.out.hM A' ha1
 obtain⟨bA,oA,cA,gA1,gA2,gA3⟩:=H.o.at_ A' ha1
 rw[Nat.zero_add] at gA1
 have nA:¬bA=gd:=by omega
 have hS2:=HF.out.hS.fill
 rw[HF.out.hv] at hS2
 have la:=hS2 rfl
 simp only[Int.toNat_natCast] at la
 obtain⟨mA3,mA4,_⟩:=mA2 0 (by omega)
 have gA4:=gA3 0 (by omega)
 rw[mA1,la] at gA1
 rw[Nat.add_zero] at gA4
 have R1:Hid _:=DQ.next (DQ.put H.d hk mA3) (by rw[HF.out.hex,ma HF.out.hv hix];rfl)
 have R2:Hid _:=mR wr gd k ((dss.getD A' []).getD 0 0)
 clear mA1 mA2 mA3 mA4 gA3 la H hS2
 generalize (dss.getD A' []).getD 0 0=fa at gA4 R1 R2
 conv=>arg 2;whnf
 all_goals
  go_wp2_with fail
  apply HP.out<;>first|exact R1.out|exact R2.out
theorem D6 {E M W dn dz:Value}(F:MF vs Z T x dss zss i m n ⟨11,(n:Int),A,B,C,K⟩ ex)(hix:x<i)(H:MR wr V gd go gz oz i m n k ⟨11,(n:Int),A,B,C,K⟩ dss zss ex)(hk:k<n)
  (hP:∀(dO dP dQ dR dS dT dU dV dW dX dY dZ d0 d1 d2 d3 d4 d5 d6 d7 d8 d9 ea eb ec ed ee ef eg eh ei ej ek el em en eo ep eq er es et eu ev ew ey ez eA eB eC eD eE eF eG eH eI eJ eK eL eM eN eO eP eQ eR eS eT eU eV eW eX eY eZ e0 e1 e2 e3 e4 e5 e6 e7 e8 e9 fb fc fd fe ff fg fh fi fj fk fl fm fn fo fp fq fr fs ft fu fv fw fx fy fz fA fB fC fD fE fF fG fH fI fJ fK fL fM fN fO fP fQ fR fS fT fU fV fW fX fY fZ f0 f1 f2 f3 f4 f5 f6 f7 f8 f9 ga gb gc gf gg gh gi gj gk gl gm gn gp gq gr gs gu gv gw gx gy gA gB gC gD gE gF gG gH gI gJ gK gL gM gN gO gP gQ gR gS gT gU gV gW gX:Value) (W':World),DP W' gd n ex (k+1)->Kept gd (gd+1) wr W'->Post ⟨#[a,.slice (some ⟨gz,oz,none⟩) m cb,b,c,e,f,g,h,j,l,p,q,.slice (some ⟨go,0,none⟩) i co,r,.pointer (some ⟨V,0,none⟩),.slice (some ⟨gd,0,none⟩) n n,s,.int .i64 ((k:Int)+1),dO,dP,dQ,t,u,w,D,E,G,I,J,L,M,N,O,P,Q,R,S,U,W,X,Y,aa,ab,ad,ae,af,ag,ah,ai,aj,ak,al,am,dR,dS,dT,dU,dV,dW,dX,dY,dZ,d0,d1,d2,d3,d4,d5,d6,d7,d8,d9,ea,eb,ec,ed,ee,ef,eg,eh,ei,ej,ek,el,em,en,eo,ep,eq,er,es,et,eu,ev,ew,ey,ez,eA,eB,eC,eD,eE,eF,eG,eH,eI,eJ,eK,eL,eM,eN,eO,eP,eQ,eR,eS,eT,eU,eV,eW,eX,eY,eZ,e0,e1,e2,e3,e4,e5,e6,e7,e8,e9,fb,fc,fd,fe,ff,fg,fh,fi,fj,fk,fl,fm,fn,fo,fp,fq,fr,fs,ft,fu,fv,fw,fx,fy,fz,fA,fB,fC,fD,fE,fF,fG,fH,fI,fJ,fK,fL,fM,fN,fO,fP,fQ,fR,fS,fT,fU,fV,fW,fX,fY,fZ,f0,f1,f2,f3,f4,f5,f6,f7,f8,f9,ga,gb,gc,gf,gg,gh,gi,gj,gk,gl,gm,gn,gp,gq,gr,gs,gu,gv,gw,gx,gy,gA,gB,gC,gD,gE,gF,gG,gH,gI,gJ,gK,gL,gM,gN,gO,gP,gQ,gR,gS,gT,gU,gV,gW,gX,an,ao,ap,aq,ar,au,av,aw,ax,ay,az,aA,aB,aC,aD,aE],[]⟩ W'):
  Code.wp Tryz.prog ml (Exit.then Post λ_ _ _=>False) ⟨#[a,.slice (some ⟨gz,oz,none⟩) m cb,b,c,e,f,g,h,j,l,p,q,.slice (some ⟨go,0,none⟩) i co,r,.pointer (some ⟨V,0,none⟩),.slice (some ⟨gd,0,none⟩) n n,s,.int .i64 (k:Int),aF,aG,aH,t,u,w,D,E,G,I,J,L,M,N,O,P,Q,R,S,U,W,X,Y,aa,ab,ad,ae,af,ag,ah,ai,aj,ak,al,am,aI,aJ,aK,aL,aM,aN,aO,aP,aQ,aR,aS,aT,aU,aV,aW,aX,aY,aZ,a0,a1,a2,a3,a4,a5,a6,a7,a8,a9,ba,bb,bc,bd,be,bf,bg,bh,bi,bj,bk,bl,bm,bn,bo,bp,bq,br,bs,bt,bu,bv,bw,bx,bz,bB,bC,bD,bE,bF,bG,bH,bI,bJ,bK,bL,bM,bN,bO,bP,bQ,bR,bS,bT,bU,bV,bW,bX,bY,bZ,b0,b1,b2,b3,b4,b5,b6,b7,b8,b9,ca,cc,cd,ce,cf,cg,ch,ci,cj,ck,cl,cm,cn,cp,cq,cr,cs,ct,cu,cv,cw,cx,cy,cz,cB,cC,cD,cE,cF,cG,cH,cI,cJ,cK,cL,cM,cN,cO,cP,cQ,cR,cS,cT,cU,cV,cW,cX,cY,cZ,c0,c1,c2,c3,c4,c5,c6,c7,c8,c9,da,db,dc,dd,de,df,dg,dh,di,dj,dk,dl,dm,dn,dp,dq,dr,ds,dt,du,dv,dw,dx,dy,dz,dA,dB,dC,dD,dE,dF,dG,dH,dI,dJ,dK,dL,dM,dN,an,ao,ap,aq,ar,au,av,aw,ax,ay,az,aA,aB,aC,aD,aE],[]⟩ wr:=by
 have HF:Hid _:=F
 have HR:Hid _:=H
 have HP:Hid _:=hP
 have hn2:=F.hn2
 have hm1:=F.hm1
 have him:=F.him
 obtain⟨y,hy,_⟩:=DQ.cell H.d hk
 have hfz:=DQ.free H.d k
 have hgo:¬go=gd:=by have:=H.o.lt;omega
 have hgz:¬gz=gd:=by have:=H.z.lt;omega
 have hgv:¬V=gd:=by have:=H.nv;omega
 obtain⟨y0,y1,y2,y3,y4,y5⟩:=H.v
 simp only at y0 y1 y2 y3 y4 y5
 clear F hP
 obtain⟨A',rfl,ha1⟩:=HF.out.opA (by decide) (by decide)
 obtain⟨mA1,mA2⟩:=HF.out.hM A' ha1
 obtain⟨bA,oA,cA,gA1,gA2,gA3⟩:=H.o.at_ A' ha1
 rw[Nat.zero_add] at gA1
 have nA:¬bA=gd:=by omega
 have hS2:=HF.out.hS.pick
 rw[HF.out.hv,HF.out.hn] at hS2
 have la:=(hS2 rfl).2
 have hC:=HF.out.hc (.inl rfl)
 simp only[Int.toNat_natCast] at la hC
 obtain⟨C',rfl⟩:∃C':Nat,C=(C':Int):=⟨C.toNat,by omega⟩
 rw[Int.toNat_natCast] at la
 obtain⟨mA3,mA4,_⟩:=mA2 C' la
 have gA4:=gA3 C' (by omega)
 rw[mA1] at gA1
 have hl1:=(HF.out.hSA A' ha1).2
 have R1:Hid _:=DQ.next (DQ.put H.d hk mA3) (by rw[HF.out.hex,ma HF.out.hv hix];rfl)
 have R2:Hid _:=mR wr gd k ((dss.getD A' []).getD C' 0)
 clear mA1 mA2 mA3 mA4 gA3 H hS2
 generalize (dss.getD A' []).getD C' 0=fa at gA4 R1 R2
 generalize ln vs A'=lA at gA1 la hl1
 conv=>arg 2;whnf
 go_wp2_with fail
 go_region
 all_goals
  go_wp2_with fail
  apply HP.out
  ·first|exact DQ.drewN R1.out 1|exact DQ.drewN R1.out _
  ·first|exact Kept.drew R2.out|exact R2.out.trans (iq _ _ _ _)
theorem Ea {E M W dn dz:Value}(F:MF vs Z T x dss zss i m n ⟨12,(n:Int),A,B,C,K⟩ ex)(hix:x<i)(H:MR wr V gd go gz oz i m n k ⟨12,(n:Int),A,B,C,K⟩ dss zss ex)(hk:k<n)
  (hP:∀(dO dP dQ dR dS dT dU dV dW dX dY dZ d0 d1 d2 d3 d4 d5 d6 d7 d8 d9 ea eb ec ed ee ef eg eh ei ej ek el em en eo ep eq er es et eu ev ew ey ez eA eB eC eD eE eF eG eH eI eJ eK eL eM eN eO eP eQ eR eS eT eU eV eW eX eY eZ e0 e1 e2 e3 e4 e5 e6 e7 e8 e9 fb fc fd fe ff fg fh fi fj fk fl fm fn fo fp fq fr fs ft fu fv fw fx fy fz fA fB fC fD fE fF fG fH fI fJ fK fL fM fN fO fP fQ fR fS fT fU fV fW fX fY fZ f0 f1 f2 f3 f4 f5 f6 f7 f8 f9 ga gb gc gf gg gh gi gj gk gl gm gn gp gq gr gs gu gv gw gx gy gA gB gC gD gE gF gG gH gI gJ gK gL gM gN gO gP gQ gR gS gT gU gV gW gX:Value) (W':World),DP W' gd n ex (k+1)->Kept gd (gd+1) wr W'->Post ⟨#[a,.slice (some ⟨gz,oz,none⟩) m cb,b,c,e,f,g,h,j,l,p,q,.slice (some ⟨go,0,none⟩) i co,r,.pointer (some ⟨V,0,none⟩),.slice (some ⟨gd,0,none⟩) n n,s,.int .i64 ((k:Int)+1),dO,dP,dQ,t,u,w,D,E,G,I,J,L,M,N,O,P,Q,R,S,U,W,X,Y,aa,ab,ad,ae,af,ag,ah,ai,aj,ak,al,am,dR,dS,dT,dU,dV,dW,dX,dY,dZ,d0,d1,d2,d3,d4,d5,d6,d7,d8,d9,ea,eb,ec,ed,ee,ef,eg,eh,ei,ej,ek,el,em,en,eo,ep,eq,er,es,et,eu,ev,ew,ey,ez,eA,eB,eC,eD,eE,eF,eG,eH,eI,eJ,eK,eL,eM,eN,eO,eP,eQ,eR,eS,eT,eU,eV,eW,eX,eY,eZ,e0,e1,e2,e3,e4,e5,e6,e7,e8,e9,fb,fc,fd,fe,ff,fg,fh,fi,fj,fk,fl,fm,fn,fo,fp,fq,fr,fs,ft,fu,fv,fw,fx,fy,fz,fA,fB,fC,fD,fE,fF,fG,fH,fI,fJ,fK,fL,fM,fN,fO,fP,fQ,fR,fS,fT,fU,fV,fW,fX,fY,fZ,f0,f1,f2,f3,f4,f5,f6,f7,f8,f9,ga,gb,gc,gf,gg,gh,gi,gj,gk,gl,gm,gn,gp,gq,gr,gs,gu,gv,gw,gx,gy,gA,gB,gC,gD,gE,gF,gG,gH,gI,gJ,gK,gL,gM,gN,gO,gP,gQ,gR,gS,gT,gU,gV,gW,gX,an,ao,ap,aq,ar,au,av,aw,ax,ay,az,aA,aB,aC,aD,aE],[]⟩ W'):
  Code.wp Tryz.prog ml (Exit.then Post λ_ _ _=>False) ⟨#[a,.slice (some ⟨gz,oz,none⟩) m cb,b,c,e,f,g,h,j,l,p,q,.slice (some ⟨go,0,none⟩) i co,r,.pointer (some ⟨V,0,none⟩),.slice (some ⟨gd,0,none⟩) n n,s,.int .i64 (k:Int),aF,aG,aH,t,u,w,D,E,G,I,J,L,M,N,O,P,Q,R,S,U,W,X,Y,aa,ab,ad,ae,af,ag,ah,ai,aj,ak,al,am,aI,aJ,aK,aL,aM,aN,aO,aP,aQ,aR,aS,aT,aU,aV,aW,aX,aY,aZ,a0,a1,a2,a3,a4,a5,a6,a7,a8,a9,ba,bb,bc,bd,be,bf,bg,bh,bi,bj,bk,bl,bm,bn,bo,bp,bq,br,bs,bt,bu,bv,bw,bx,bz,bB,bC,bD,bE,bF,bG,bH,bI,bJ,bK,bL,bM,bN,bO,bP,bQ,bR,bS,bT,bU,bV,bW,bX,bY,bZ,b0,b1,b2,b3,b4,b5,b6,b7,b8,b9,ca,cc,cd,ce,cf,cg,ch,ci,cj,ck,cl,cm,cn,cp,cq,cr,cs,ct,cu,cv,cw,cx,cy,cz,cB,cC,cD,cE,cF,cG,cH,cI,cJ,cK,cL,cM,cN,cO,cP,cQ,cR,cS,cT,cU,cV,cW,cX,cY,cZ,c0,c1,c2,c3,c4,c5,c6,c7,c8,c9,da,db,dc,dd,de,df,dg,dh,di,dj,dk,dl,dm,dn,dp,dq,dr,ds,dt,du,dv,dw,dx,dy,dz,dA,dB,dC,dD,dE,dF,dG,dH,dI,dJ,dK,dL,dM,dN,an,ao,ap,aq,ar,au,av,aw,ax,ay,az,aA,aB,aC,aD,aE],[]⟩ wr:=by
 have HF:Hid _:=F
 have HR:Hid _:=H
 have HP:Hid _:=hP
 have hn2:=F.hn2
 have hm1:=F.hm1
 have him:=F.him
 obtain⟨y,hy,_⟩:=DQ.cell H.d hk
 have hfz:=DQ.free H.d k
 have hgo:¬go=gd:=by have:=H.o.lt;omega
 have hgz:¬gz=gd:=by have:=H.z.lt;omega
 have hgv:¬V=gd:=by have:=H.nv;omega
 obtain⟨y0,y1,y2,y3,y4,y5⟩:=H.v
 simp only at y0 y1 y2 y3 y4 y5
 clear F hP
 obtain⟨A',rfl,ha1⟩:=HF.out.opA (by decide) (by decide)
 obtain⟨mA1,mA2⟩:=HF.out.hM A' ha1
 obtain⟨bA,oA,cA,gA1,gA2,gA3⟩:=H.o.at_ A' ha1
 rw[Nat.zero_add] at gA1
 have nA:¬bA=gd:=by omega
 have hS2:=HF.out.hS.put
 rw[HF.out.hv,HF.out.hn] at hS2
 have la:=hS2 rfl
 simp only[Int.toNat_natCast] at la
 have hC:=HF.out.hc (.inr rfl)
 simp only at hC
 obtain⟨C',rfl⟩:∃C':Nat,C=(C':Int):=⟨C.toNat,by omega⟩
 obtain⟨la1,la2⟩:=la
 rw[mA1,la1] at gA1
 by_cases hkC:k=C'
 ·obtain⟨mA3,mA4,_⟩:=mA2 0 (by omega)
  have gA4:=gA3 0 (by omega)
  rw[Nat.add_zero] at gA4
  have R1:Hid _:=DQ.next (DQ.put H.d hk mA3) (by rw[HF.out.hex,ma HF.out.hv hix];show _=(if k=C' then _ else _);rw[if_pos hkC];rfl)
  have R2:Hid _:=mR wr gd k ((dss.getD A' []).getD 0 0)
  have hkc:((k:Int)==(C':Int))=true:=by simp;omega
  clear mA1 mA2 mA3 mA4 gA3 H hS2 hkC
  generalize (dss.getD A' []).getD 0 0=fa at gA4 R1 R2
  conv=>arg 2;whnf
  all_goals
   go_wp2_with fail
   apply HP.out<;>first|exact R1.out|exact R2.out
 ·have R1:Hid _:=DQ.next H.d (by rw[HF.out.hex,ma HF.out.hv hix];show _=(if k=C' then _ else _);rw[if_neg hkC])
  have R2:Hid _:=Kept.refl gd (gd+1) wr
  have hkc:((k:Int)==(C':Int))=false:=by simp;omega
  clear mA1 mA2 gA3 H hS2 hkC
  conv=>arg 2;whnf
  all_goals
   go_wp2_with fail
   apply HP.out<;>first|exact R1.out|exact R2.out
end Go.Proofs.YtnlffngpnoodkaaGreat
