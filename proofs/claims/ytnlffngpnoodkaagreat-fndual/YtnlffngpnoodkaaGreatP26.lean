import Derived.Test.YtnlffngpnoodkaaGreatP25
import Derived.Test.YtnlffngpnoodkaaGreatP20
namespace Go.Proofs.YtnlffngpnoodkaaGreat
set_option maxRecDepth 1000000
set_option maxHeartbeats 0
section
open Go.RowKit Flt
variable {W0 w W1 w5:World} {lo P hi hi' i b:Nat} {vs0:List Vl} {v:Vl} {la:Int}
theorem iU {P:Program}{a:Addr}{m:Mode}(f:Fn)(r c:Array Value):(store a (.func f r c) m).run P w=stored P w a (.func f r c) m:=run_store P w a _ m rfl
attribute [local go_sem] ic ib ia iU
theorem Bx.grow {u:Value}(x:Bx W0 lo hi b u)(k:Kept 0 0 W0 W1)(h:hi=W0.heap.size)(h2:hi'=W1.heap.size):Bx W1 lo hi' b u:=Ay x k (by omega) (Nat.le_refl _) (by have:=k.size;omega)
theorem Vx.grow (x:Vx W0 lo hi b v)(k:Kept 0 0 W0 W1)(h:hi=W0.heap.size)(h2:hi'=W1.heap.size):Vx W1 lo hi' b v:=Az x k (by omega) (Nat.le_refl _) (by have:=k.size;omega)
theorem PtO.from {w3 w4:World}{i:Int}{e:Ending}(k:Kept 0 0 w w3)(h:PtO w3 P vs0 i v la e w4):PtO w P vs0 i v la e w4:=by
 obtain⟨a,m,c,fv,h1,h2,h3,h4⟩:=h
 exact⟨a,m,c,fv,h1,h2,h3.mono (Same.refl (Nat.le_refl _)) k.size (Nat.le_refl _),k.trans h4⟩
theorem AA (n0:1<=v.len)(n1:v.len<=1000)(ho:v.op=2)(HK5:Hid (Kept 0 0 w w5))(HB5:Hid (Bx w5 w.heap.size w5.heap.size w.heap.size (.pointer (some ⟨P,0,none⟩))))(HI5:Hid (Bx w5 w.heap.size w5.heap.size (w.heap.size+1) (.int .i64 (i:Int))))(HV5:Hid (Vx w5 w.heap.size w5.heap.size (w.heap.size+2) v))(HN5:Hid (Bx w5 w.heap.size w5.heap.size (w.heap.size+3) (.int .i64 v.len)))(HO5:Hid (Bx w5 w.heap.size w5.heap.size (w.heap.size+4) (.func (.func 124) #[] #[.pointer (some ⟨w.heap.size,0,none⟩),.pointer (some ⟨w.heap.size+3,0,none⟩)]))):
  ∀t g,g=w5.heap.size->PtO w P vs0 (i:Int) v la (.returned (.slice (some ⟨g,0,none⟩) 2 2)) (w5.alloc (.cells #[.func (.func 123) #[] #[],.func (.func 123) #[] #[]] t)):=by
  intro t g hg
  have _h1:=n0
  have _h2:=HB5
  have _h3:=HI5
  have _h4:=HV5
  have _h5:=HN5
  have _h6:=HO5
  have _h7:=n1
  refine PtO.mk HK5.out _ t 2 (by rw[ho];decide) (λk hk=>?_) g hg
  have hc:cnt v.op=2:=by rw[ho];rfl
  rcases (by omega:k=0\/k=1) with rfl|rfl
  ·refine⟨_,rfl,λ_=>(ql _ _ _ _ _).cast ?_,λhb=>?_⟩
   ·funext d N
    unfold iW
    rw[ho]
    rfl
   ·unfold ku at hb
    rw[ho] at hb
    simp at hb
  ·refine⟨_,rfl,λ_=>(ql _ _ _ _ _).cast ?_,λhb=>?_⟩
   ·funext d N
    unfold iW
    rw[ho]
    rfl
   ·unfold ku at hb
    rw[ho] at hb
    simp at hb
theorem AB (n0:1<=v.len)(n1:v.len<=1000)(ho:v.op=3)(HK5:Hid (Kept 0 0 w w5))(HB5:Hid (Bx w5 w.heap.size w5.heap.size w.heap.size (.pointer (some ⟨P,0,none⟩))))(HI5:Hid (Bx w5 w.heap.size w5.heap.size (w.heap.size+1) (.int .i64 (i:Int))))(HV5:Hid (Vx w5 w.heap.size w5.heap.size (w.heap.size+2) v))(HN5:Hid (Bx w5 w.heap.size w5.heap.size (w.heap.size+3) (.int .i64 v.len)))(HO5:Hid (Bx w5 w.heap.size w5.heap.size (w.heap.size+4) (.func (.func 124) #[] #[.pointer (some ⟨w.heap.size,0,none⟩),.pointer (some ⟨w.heap.size+3,0,none⟩)]))):
  ∀t g,g=w5.heap.size->PtO w P vs0 (i:Int) v la (.returned (.slice (some ⟨g,0,none⟩) 2 2)) (w5.alloc (.cells #[.func (.func 123) #[] #[],.func (.func 124) #[] #[.pointer (some ⟨w.heap.size,0,none⟩),.pointer (some ⟨w.heap.size+3,0,none⟩)]] t)):=by
  intro t g hg
  have _h1:=n0
  have _h2:=HB5
  have _h3:=HI5
  have _h4:=HV5
  have _h5:=HN5
  have _h6:=HO5
  have _h7:=n1
  refine PtO.mk HK5.out _ t 2 (by rw[ho];decide) (λk hk=>?_) g hg
  have hc:cnt v.op=2:=by rw[ho];rfl
  rcases (by omega:k=0\/k=1) with rfl|rfl
  ·refine⟨_,rfl,λ_=>(ql _ _ _ _ _).cast ?_,λhb=>?_⟩
   ·funext d N
    unfold iW
    rw[ho]
    rfl
   ·unfold ku at hb
    rw[ho] at hb
    simp at hb
  ·refine⟨_,rfl,λ_=>(yf HB5.out HN5.out (by omega) n1).cast ?_,λhb=>?_⟩
   ·funext d N
    unfold iW
    rw[ho]
    rfl
   ·unfold ku at hb
    rw[ho] at hb
    simp at hb
theorem AC (n0:1<=v.len)(n1:v.len<=1000)(ho:v.op=4)(HK5:Hid (Kept 0 0 w w5))(HB5:Hid (Bx w5 w.heap.size w5.heap.size w.heap.size (.pointer (some ⟨P,0,none⟩))))(HI5:Hid (Bx w5 w.heap.size w5.heap.size (w.heap.size+1) (.int .i64 (i:Int))))(HV5:Hid (Vx w5 w.heap.size w5.heap.size (w.heap.size+2) v))(HN5:Hid (Bx w5 w.heap.size w5.heap.size (w.heap.size+3) (.int .i64 v.len)))(HO5:Hid (Bx w5 w.heap.size w5.heap.size (w.heap.size+4) (.func (.func 124) #[] #[.pointer (some ⟨w.heap.size,0,none⟩),.pointer (some ⟨w.heap.size+3,0,none⟩)]))):
  ∀t g,g=w5.heap.size->PtO w P vs0 (i:Int) v la (.returned (.slice (some ⟨g,0,none⟩) 2 2)) (w5.alloc (.cells #[.func (.func 125) #[] #[.pointer (some ⟨w.heap.size,0,none⟩),.pointer (some ⟨w.heap.size+3,0,none⟩),.pointer (some ⟨w.heap.size+2,0,none⟩)],.func (.func 126) #[] #[.pointer (some ⟨w.heap.size,0,none⟩),.pointer (some ⟨w.heap.size+3,0,none⟩),.pointer (some ⟨w.heap.size+2,0,none⟩)]] t)):=by
  intro t g hg
  have _h1:=n0
  have _h2:=HB5
  have _h3:=HI5
  have _h4:=HV5
  have _h5:=HN5
  have _h6:=HO5
  have _h7:=n1
  refine PtO.mk HK5.out _ t 2 (by rw[ho];decide) (λk hk=>?_) g hg
  have hc:cnt v.op=2:=by rw[ho];rfl
  rcases (by omega:k=0\/k=1) with rfl|rfl
  ·refine⟨_,rfl,λ_=>(Au HB5.out HN5.out (by omega) n1 HV5.out).cast ?_,λhb=>?_⟩
   ·funext d N
    unfold iW
    rw[ho]
    rfl
   ·unfold ku at hb
    rw[ho] at hb
    simp at hb
  ·refine⟨_,rfl,λ_=>(Av HB5.out HN5.out (by omega) n1 HV5.out).cast ?_,λhb=>?_⟩
   ·funext d N
    unfold iW
    rw[ho]
    rfl
   ·unfold ku at hb
    rw[ho] at hb
    simp at hb
theorem AD (n0:1<=v.len)(n1:v.len<=1000)(ho:v.op=6)(HK5:Hid (Kept 0 0 w w5))(HB5:Hid (Bx w5 w.heap.size w5.heap.size w.heap.size (.pointer (some ⟨P,0,none⟩))))(HI5:Hid (Bx w5 w.heap.size w5.heap.size (w.heap.size+1) (.int .i64 (i:Int))))(HV5:Hid (Vx w5 w.heap.size w5.heap.size (w.heap.size+2) v))(HN5:Hid (Bx w5 w.heap.size w5.heap.size (w.heap.size+3) (.int .i64 v.len)))(HO5:Hid (Bx w5 w.heap.size w5.heap.size (w.heap.size+4) (.func (.func 124) #[] #[.pointer (some ⟨w.heap.size,0,none⟩),.pointer (some ⟨w.heap.size+3,0,none⟩)]))):
  ∀t g,g=w5.heap.size->PtO w P vs0 (i:Int) v la (.returned (.slice (some ⟨g,0,none⟩) 1 1)) (w5.alloc (.cells #[.func (.func 124) #[] #[.pointer (some ⟨w.heap.size,0,none⟩),.pointer (some ⟨w.heap.size+3,0,none⟩)]] t)):=by
  intro t g hg
  have _h1:=n0
  have _h2:=HB5
  have _h3:=HI5
  have _h4:=HV5
  have _h5:=HN5
  have _h6:=HO5
  have _h7:=n1
  refine PtO.mk HK5.out _ t 1 (by rw[ho];decide) (λk hk=>?_) g hg
  have hc:cnt v.op=1:=by rw[ho];rfl
  obtain rfl:k=0:=by omega
  refine⟨_,rfl,λ_=>(yf HB5.out HN5.out (by omega) n1).cast ?_,λhb=>?_⟩
  ·funext d N
   unfold iW
   rw[ho]
   rfl
  ·unfold ku at hb
   rw[ho] at hb
   simp at hb
end
section
open Go.RowKit Flt
attribute [local go_sem] ic ib ia iU
variable {W0 W1 w W' w5:World} {Q:Nat->Prop} {lo lo' P hi' K i hi A S n x m xo xw base xi go xp mp cp:Nat} {v:Vl} {u u1 u3 rv vv vv':Value} {us vs0:List Vl} {act:List Bool} {R' R R0:Option Nat} {sl:List Int} {st:List Vl×List Int} {fv:Nat->Value}
def jF (vs0:List Vl)(o:Nat)(p:Int)(st:List Vl×List Int):List Vl×List Int:=
 if st.2.getD o 0=-1 then (st.1,st.2.set o p) else (st.1++[ik 2 (vs0.getD o Vl.zero).len (st.2.getD o 0) p 0],st.2.set o (st.1.length:Nat))
def laM (vs0:List Vl)(i:Nat):Int:=(vs0.getD (vs0.getD i Vl.zero).a.toNat Vl.zero).len
def gkM (vs0:List Vl)(act:List Bool)(i k:Nat)(st:List Vl×List Int):List Vl×List Int:=
 if act.getD (fld (vs0.getD i Vl.zero) k).toNat false=true/\ku (vs0.getD i Vl.zero) k=true then
  jF vs0 (fld (vs0.getD i Vl.zero) k).toNat (iW (i:Int) (vs0.getD i Vl.zero) (laM vs0 i) k (st.2.getD i 0) st.1.length).2 (st.1++(iW (i:Int) (vs0.getD i Vl.zero) (laM vs0 i) k (st.2.getD i 0) st.1.length).1,st.2)
 else st
def jl (vs0:List Vl)(act:List Bool)(i:Nat)(st:List Vl×List Int):Nat->List Vl×List Int
 |0=>st
 |k+1=>gkM vs0 act i k (jl vs0 act i st k)
def giM (vs0:List Vl)(act:List Bool)(i:Nat)(st:List Vl×List Int):List Vl×List Int:=
 if st.2.getD i 0=-1 then st else jl vs0 act i st (cnt (vs0.getD i Vl.zero).op)
theorem StQ.mono {Q':Nat->Prop}{w':World}(s:StQ Q R w R' w')(h:∀b,Q b->Q' b):StQ Q' R w R' w':=
 ⟨s.chg.mono λb _ c=>c.imp (h b) id,s.row⟩
structure BK (W:World)(K P A S n:Nat)(rv:Value)(act:List Bool)(sl:List Int):Prop where
 lt:K<W.heap.size
 fr:∀o,W.frozen? ⟨K,o,none⟩=false
 c0:W.cell? ⟨K,0,none⟩=some (.pointer (some ⟨P,0,none⟩))
 c1:W.cell? ⟨K,1,none⟩=some (.slice (some ⟨A,0,none⟩) n n)
 c2:W.cell? ⟨K,2,none⟩=some (.slice (some ⟨S,0,none⟩) n n)
 c3:W.cell? ⟨K,3,none⟩=some rv
 al:act.length=n
 ln:sl.length=n
 ac:BR W A act
 sp:IR W S sl
structure Dj (P K A S:Nat)(R:Option Nat):Prop where
 kp:K≠P
 ap:A≠P
 sp:S≠P
 ka:K≠A
 ks:K≠S
 as_:A≠S
 rk:R≠some K
 ra:R≠some A
 rs:R≠some S
theorem BK.keepC {W:World}(f:BK W K P A S n rv act sl)(k:Chg Q W W')(h1:¬Q K)(h2:¬Q A)(h3:¬Q S):BK W' K P A S n rv act sl:=by
 have e:∀o,W'.cell? ⟨K,o,none⟩=W.cell? ⟨K,o,none⟩:=λo=>k.cell (p:=⟨K,o,none⟩) f.lt h1
 exact⟨Nat.lt_of_lt_of_le f.lt k.size,λo=>by rw[k.frozen (p:=⟨K,o,none⟩) f.lt h1];exact f.fr o,by rw[e];exact f.c0,by rw[e];exact f.c1,by rw[e];exact f.c2,by rw[e];exact f.c3,f.al,f.ln,BR.keepC f.ac k h2,IR.keepC f.sp k h3⟩
theorem BK.keep {W:World}(f:BK W K P A S n rv act sl)(k:Kept 0 0 W W'):BK W' K P A S n rv act sl:=f.keepC (S:=S) (Q:=λ_=>False) k.chg (λh=>h) (λh=>h) (λh=>h)
theorem BK.step {W:World}(f:BK W K P A S n rv act sl)(d:Dj P K A S R)(s:Stp P R W R' W'):BK W' K P A S n rv act sl:=
 f.keepC s.chg (by rintro (c|c);exact d.kp c;exact d.rk c) (by rintro (c|c);exact d.ap c;exact d.ra c) (by rintro (c|c);exact d.sp c;exact d.rs c)
theorem Dj.step {W:World}(d:Dj P K A S R)(s:StQ Q R W R' W')(hK:K<W.heap.size)(hA:A<W.heap.size)(hS:S<W.heap.size):Dj P K A S R':=by
 rcases s.row with e|⟨r,e,hr⟩
 ·rw[e];exact d
 ·refine⟨d.kp,d.ap,d.sp,d.ka,d.ks,d.as_,?_,?_,?_⟩<;>(rw[e];intro c;cases c;omega)
theorem BK.set {W:World}(f:BK W K P A S n rv act sl)(d:Dj P K A S R)(o:Nat)(x:Int):BK (W.setCell ⟨S,o,none⟩ (.int .i64 x)) K P A S n rv act (sl.set o x):=by
 have k:=iH (S:=λb=>b=S) W S o (.int .i64 x) rfl
 have e:∀q,(W.setCell ⟨S,o,none⟩ (.int .i64 x)).cell? ⟨K,q,none⟩=W.cell? ⟨K,q,none⟩:=λq=>k.cell (p:=⟨K,q,none⟩) f.lt d.ks
 exact⟨by simpa using f.lt,λq=>by rw[World.frozen?_setCell];exact f.fr q,by rw[e];exact f.c0,by rw[e];exact f.c1,by rw[e];exact f.c2,by rw[e];exact f.c3,f.al,by rw[List.length_set];exact f.ln,BR.keepC f.ac k d.as_,IR.set f.sp o x⟩
theorem BS.setS {W:World}{o:Nat}{c:Int}(h:BS W P u1 u3 us c base R vv)(hP:S≠P)(hR:R≠some S):BS (W.setCell ⟨S,o,none⟩ u) P u1 u3 us c base R vv:=by
 have k:=iH (S:=λb=>b=S) W S o u rfl
 have e:∀q,(W.setCell ⟨S,o,none⟩ u).cell? ⟨P,q,none⟩=W.cell? ⟨P,q,none⟩:=λq=>k.cell (p:=⟨P,q,none⟩) h.lt (λc=>hP c.symm)
 exact⟨by simpa using h.lt,λq=>by rw[World.frozen?_setCell];exact h.free q,by rw[e];exact h.c0,by rw[e];exact h.c1,by rw[e];exact h.c2,by rw[e];exact h.c3,ir h.own (by rw[h.row];exact hR),h.row,h.ne,by simpa using h.sz⟩
def GvO (W:World)(P K A S n:Nat)(u1 u3 rv:Value)(act:List Bool)(base:Nat)(R:Option Nat)(st:List Vl×List Int)(e:Ending)(w':World):Prop:=
 e=.returned (.tuple #[])/\∃R' vv',BS w' P u1 u3 st.1 (ig st.1) base R' vv'/\BK w' K P A S n rv act st.2/\StQ (λb=>b=P\/b=S) R W R' w'
theorem E0 (W:World)(P K A S n:Nat)(u1 u3 rv vv:Value)(act:List Bool)(us:List Vl)(sl:List Int)(base:Nat)(R:Option Nat)(h:BS W P u1 u3 us (ig us) base R vv)(b:BK W K P A S n rv act sl)(d:Dj P K A S R)(vs0:List Vl)(hp:Pre vs0 us)(B:Bnd us (ig us) 0)(o:Nat)(p:Int)(ho:o<n)(hv:vs0.length=n)(l0:1<=(vs0.getD o Vl.zero).len)(l1:(vs0.getD o Vl.zero).len<=1000):
  Calls Tryz.prog 115 #[.pointer (some ⟨K,0,none⟩),.int .i64 (o:Int),.int .i64 p] W λe w'=>GvO W P K A S n u1 u3 rv act base R (jF vs0 o p (us,sl)) e w':=by
 have y0:=b.c0
 have y2:=b.c2
 have y3:=IR.cell b.sp o (by rw[b.ln];exact ho)
 have hfr:=IR.free b.sp o
 have ho1:(0:Int)<=(o:Int):=by omega
 have ho2:(o:Int)<(n:Int):=by omega
 have HG:Hid (∀x,jF vs0 o p (us,sl)=x->jF vs0 o p (us,sl)=x):=λx h=>h
 unfold jF
 by_cases hs:sl.getD o 0=-1
 ·rw[if_pos hs]
  rw[hs] at y3
  have HR1:Hid _:=BS.setS (o:=o) (u:=.int .i64 p) h d.sp d.rs
  have HR2:Hid _:=b.set d o p
  have HR3:Hid (StQ (λb=>b=P\/b=S) R W R (W.setCell ⟨S,o,none⟩ (.int .i64 p))):=⟨iH W S o _ (.inl (.inr rfl)),.inl rfl⟩
  clear h b d hp B hs HG
  go_enter Tryz.func115,Tryz.ntmps115
  go_wp2_with fail
  refine bodyPost_end (v:=.tuple #[]) (by simp[results,Tryz.results115,go_sem]) rfl ?_
  exact⟨rfl,R,vv,HR1.out,HR2.out,HR3.out⟩
 ·rw[if_neg hs]
  have hs1:(sl.getD o 0==-1)=false:=by simp;exact hs
  have HX:Hid _:=kE W.drew P u1 u3 us (ig us) base R vv 2 (vs0.getD o Vl.zero).len (sl.getD o 0) p 0 (BS.keep h (ie W)) (by have:=B.l;omega) (by have:=B.c0;omega) (by have:=B.c1;omega) (by omega) (by omega)
  have HL:Hid _:=qk W.drew P u1 u3 us (ig us) base R vv (BS.keep h (ie W)) o (hp.at_ (by omega)).2 B.l
  rw[(hp.at_ (show o<vs0.length by omega)).1] at HL
  generalize (vs0.getD o Vl.zero).len=L at HX HL
  generalize sl.getD o 0=q at y3 hs1 HX
  have HB:Hid _:=b
  have HD:Hid _:=d
  have HO:Hid (o<n):=ho
  clear h b d hp B hs HG hfr l0 l1
  go_enter Tryz.func115,Tryz.ntmps115
  go_wp2_with fail
  go_region_held3 (λw'=>w'.cell? ⟨K,0,none⟩=some (.pointer (some ⟨P,0,none⟩))/\w'.cell? ⟨K,2,none⟩=some (.slice (some ⟨S,0,none⟩) n n)/\w'.cell? ⟨S,o,none⟩=some (.int .i64 q)) (go_keep) (first
   |(go_at_call 64;refine Calls.mono HL.out ?_;rintro e w1 ⟨rfl,rfl⟩)
   |(go_at_call 86;refine Calls.mono HX.out ?_;rintro e w2 ⟨rfl,R2,vv2,h2,s2⟩;have s9:Stp P R W R2 w2:=StQ.trans ⟨(ie W).chg,.inl rfl⟩ s2;have HS9:Hid _:=s9;have H2:Hid _:=h2;have HB2:Hid _:=HB.out.step HD.out s9;have z0:=HB2.out.c0;have z2:=HB2.out.c2;have zS:w2.cell? ⟨S,o,none⟩=some (.int .i64 q):=(by rw[s9.chg.cell (p:=⟨S,o,none⟩) HB.out.sp.lt (by rintro (c|c);exact HD.out.sp c;exact HD.out.rs c)];exact y3);have zf:=IR.free HB2.out.sp o;clear s9 h2 s2))
  all_goals
   have HD2:Hid _:=HD.out.step HS9.out HB.out.lt HB.out.ac.lt HB.out.sp.lt
   have HR1:=BS.setS (o:=o) (u:=.int .i64 (us.length:Nat)) H2.out HD2.out.sp HD2.out.rs
   have HR1':Hid (BS (w2.setCell ⟨S,o,none⟩ (.int .i64 (us.length:Nat))) P u1 u3 (us++[ik 2 L q p 0]) (ig (us++[ik 2 L q p 0])) base R2 vv2):=by
    show BS _ _ _ _ _ _ _ _ _
    rw[jB];exact HR1
   have HR2:Hid _:=HB2.out.set HD2.out o (us.length:Nat)
   have HR3:Hid (StQ (λb=>b=P\/b=S) R W R2 (w2.setCell ⟨S,o,none⟩ (.int .i64 (us.length:Nat)))):=StQ.trans (HS9.out.mono λb c=>.inl c) ⟨iH w2 S o _ (.inl (.inr rfl)),.inl rfl⟩
   clear HR1
   go_wp2_with fail
   refine bodyPost_end (v:=.tuple #[]) (by simp[results,Tryz.results115,go_sem]) rfl ?_
   exact⟨rfl,R2,vv2,HR1'.out,HR2.out,HR3.out⟩
def SzP (M:List Vl×Int):Prop:=M.1.length<=3/\0<=ig M.1/\ig M.1<=3000
theorem AE {p:Prop}[Decidable p]{a b:List Vl×Int}(ha:SzP a)(hb:SzP b):SzP (if p then a else b):=by split<;>assumption
theorem qm (i:Int)(v:Vl)(la:Int)(k:Nat)(d:Int)(N:Nat)(h0:0<=v.len)(h1:v.len<=1000)(h2:0<=la)(h3:la<=1000):SzP (iW i v la k d N):=by
 unfold iW
 repeat' (apply AE)
 all_goals (unfold SzP;simp only[ig,List.length_cons,List.length_nil];omega)
structure Bz (us:List Vl):Prop where
 l:us.length<=800000
 c0:0<=ig us
 c1:ig us<=800000000
theorem Bz.bnd {a:List Vl}(b:Bz us)(h1:a.length<=10)(h2:0<=ig a)(h3:ig a<=10000):Bnd (us++a) (ig (us++a)) 0:=by
 have:=b.l
 have:=b.c0
 have:=b.c1
 exact⟨by rw[List.length_append];omega,by rw[jB];omega,by rw[jB];omega,by decide,by decide⟩
theorem Bz.bnd0 (b:Bz us):Bnd us (ig us) 0:=by
 have:=b.l
 have:=b.c0
 have:=b.c1
 exact⟨by omega,by omega,by omega,by decide,by decide⟩
theorem AF {k:Nat}(h:Pre vs0 st.1):Pre vs0 (gkM vs0 act i k st).1:=by
 unfold gkM jF
 split
 ·split
  ·exact h.app
  ·exact h.app.app
 ·exact h
theorem oK {vs0:List Vl}{act:List Bool}{i:Nat}{st:List Vl×List Int}(h:Pre vs0 st.1):∀k,Pre vs0 (jl vs0 act i st k).1
 |0=>h
 |k+1=>AF (oK h k)
theorem AG {k:Nat}:(gkM vs0 act i k st).2.length=st.2.length:=by
 unfold gkM jF
 split
 ·split<;>simp
 ·rfl
theorem oL {vs0:List Vl}{act:List Bool}{i:Nat}{st:List Vl×List Int}:∀k,(jl vs0 act i st k).2.length=st.2.length
 |0=>rfl
 |k+1=>by rw[jl,AG,oL k]
structure RuleIn (W0:World)(lo hi P K:Nat)(vs0:List Vl)(i xw xi xo xp go:Nat)(a:Option Addr)(mp cp:Nat)(fv:Nat->Value):Prop where
 bw:Bx W0 lo hi xw (.pointer (some ⟨K,0,none⟩))
 bi:Bx W0 lo hi xi (.int .i64 (i:Int))
 bo:Bx W0 lo hi xo (.slice (some ⟨go,0,none⟩) (cnt (vs0.getD i Vl.zero).op) 3)
 go_:∀k,k<cnt (vs0.getD i Vl.zero).op->lo<=go/\go<hi/\W0.cell? ⟨go,k,none⟩=some (.int .i64 (fld (vs0.getD i Vl.zero) k))
 bp:Bx W0 lo hi xp (.slice a mp cp)
 mp_:cnt (vs0.getD i Vl.zero).op<=mp
 pts:Pts W0 lo hi P vs0 (i:Int) (vs0.getD i Vl.zero) (laM vs0 i) a fv
theorem RuleIn.mono {a:Option Addr}(f:RuleIn W0 lo hi P K vs0 i xw xi xo xp go a mp cp fv)(s:Same lo hi W0 W1)(h1:lo'<=lo)(h2:hi<=hi'):RuleIn W1 lo' hi' P K vs0 i xw xi xo xp go a mp cp fv:=by
 have g:∀{b u},Bx W0 lo hi b u->Bx W1 lo' hi' b u:=λx=>⟨by have:=x.lo_;omega,by have:=x.hi_;omega,by rw[s.cell x.lo_ x.hi_];exact x.at_⟩
 exact⟨g f.bw,g f.bi,g f.bo,λk hk=>by
  obtain⟨a1,a2,a3⟩:=f.go_ k hk
  exact⟨by omega,by omega,by rw[s.cell a1 a2];exact a3⟩,g f.bp,f.mp_,f.pts.mono s h1 h2⟩
structure RSt (W0 W1 W:World)(lo hi P K A S n:Nat)(u1 u3 rv:Value)(act:List Bool)(base:Nat)(R0 R:Option Nat)(vv:Value)(st:List Vl×List Int):Prop where
 same:Same lo hi W0 W
 inr:InR lo hi P R
 bs:BS W P u1 u3 st.1 (ig st.1) base R vv
 bk:BK W K P A S n rv act st.2
 dj:Dj P K A S R
 stq:StQ (λb=>b=P\/b=S) R0 W1 R W
theorem RSt.keep {W:World}(f:RSt W0 W1 W lo hi P K A S n u1 u3 rv act base R0 R vv st)(k:Kept 0 0 W W'):RSt W0 W1 W' lo hi P K A S n u1 u3 rv act base R0 R vv st:=
 ⟨f.same.chg (k.chg (S:=λ_=>False)) (λ_ _ _ h=>h),f.inr,BS.keep f.bs k,f.bk.keep k,f.dj,f.stq.trans ⟨k.chg,.inl rfl⟩⟩
theorem RSt.part {W:World}{a:List Vl}(f:RSt W0 W1 W lo hi P K A S n u1 u3 rv act base R0 R vv (us,sl))(h:BS W' P u1 u3 (us++a) (ig us+ig a) base R' vv')(s:Stp P R W R' W'):RSt W0 W1 W' lo hi P K A S n u1 u3 rv act base R0 R' vv' (us++a,sl):=
 ⟨f.same.step f.inr s,f.inr.step s (Nat.le_trans f.same.le f.same.size),by show BS _ _ _ _ (us++a) (ig (us++a)) _ _ _;rw[jB];exact h,f.bk.step f.dj s,f.dj.step s f.bk.lt f.bk.ac.lt f.bk.sp.lt,f.stq.trans (s.mono λb c=>.inl c)⟩
theorem RSt.give {W:World}{st':List Vl×List Int}(f:RSt W0 W1 W lo hi P K A S n u1 u3 rv act base R0 R vv st)(hS:S<lo)(h:BS W' P u1 u3 st'.1 (ig st'.1) base R' vv')(b:BK W' K P A S n rv act st'.2)(s:StQ (λb=>b=P\/b=S) R W R' W'):RSt W0 W1 W' lo hi P K A S n u1 u3 rv act base R0 R' vv' st':=
 ⟨f.same.chg s.chg (λb h1 h2 c=>by
  rcases c with (c|c)|c
  ·have:=f.inr.p;omega
  ·omega
  ·have:=f.inr.r b c;omega),⟨f.inr.p,λb hb=>by
  rcases s.row with e|⟨r,e,hr⟩
  ·exact f.inr.r b (by rw[<-e];exact hb)
  ·rw[e] at hb
   cases hb
   have:=f.same.le
   have:=f.same.size
   exact .inr (by omega)⟩,h,b,f.dj.step s f.bk.lt f.bk.ac.lt f.bk.sp.lt,f.stq.trans s⟩
theorem CY (w:World):(binOp .neq 131 .nilFunc .nilFunc).run Tryz.prog w=.ok (.bool false) w:=by kernel_rfl
theorem CZ (w:World)(f:Fn)(r c:Array Value):(binOp .neq 131 (.func f r c) .nilFunc).run Tryz.prog w=.ok (.bool true) w:=by kernel_rfl
theorem E1 (W0 W:World)(lo hi P K A S n:Nat)(u1 u3 rv vv:Value)(act:List Bool)(us:List Vl)(sl:List Int)(base:Nat)(R:Option Nat)(vs0:List Vl)(i xw xi xo xp go:Nat)(a:Option Addr)(mp cp:Nat)(fv:Nat->Value)
  (ri:RuleIn W0 lo hi P K vs0 i xw xi xo xp go a mp cp fv) (f:RSt W0 W W lo hi P K A S n u1 u3 rv act base R R vv (us,sl)) (hS:S<lo) (hi':i<n) (hv:vs0.length=n) (hp:Pre vs0 us) (hz:∀k,k<=cnt (vs0.getD i Vl.zero).op->Bz (jl vs0 act i (us,sl) k).1)
  (hl:∀j,j<n->1<=(vs0.getD j Vl.zero).len/\(vs0.getD j Vl.zero).len<=1000) (hla:0<=laM vs0 i/\laM vs0 i<=1000) (hops:∀k,k<cnt (vs0.getD i Vl.zero).op->0<=fld (vs0.getD i Vl.zero) k/\fld (vs0.getD i Vl.zero) k<i):
  Calls Tryz.prog 114 #[.pointer (some ⟨xw,0,none⟩),.pointer (some ⟨xi,0,none⟩),.pointer (some ⟨xo,0,none⟩),.pointer (some ⟨xp,0,none⟩)] W λe w'=>GvO W P K A S n u1 u3 rv act base R (giM vs0 act i (us,sl)) e w':=by
 have HRI:Hid _:=ri
 have HF:Hid _:=f
 have HBX:Hid (∀w',Same lo hi W0 w'->w'.cell? ⟨xw,0,none⟩=some (.pointer (some ⟨K,0,none⟩))/\w'.cell? ⟨xi,0,none⟩=some (.int .i64 (i:Int))/\w'.cell? ⟨xo,0,none⟩=some (.slice (some ⟨go,0,none⟩) (cnt (vs0.getD i Vl.zero).op) 3)/\w'.cell? ⟨xp,0,none⟩=some (.slice a mp cp)):=λw' s=>
  ⟨by rw[s.cell ri.bw.lo_ ri.bw.hi_];exact ri.bw.at_,by rw[s.cell ri.bi.lo_ ri.bi.hi_];exact ri.bi.at_,by rw[s.cell ri.bo.lo_ ri.bo.hi_];exact ri.bo.at_,by rw[s.cell ri.bp.lo_ ri.bp.hi_];exact ri.bp.at_⟩
 have HLT:Hid (S<lo/\i<n/\vs0.length=n):=⟨hS,hi',hv⟩
 have HPR:Hid _:=hp
 have HZ:Hid _:=hz
 have HL:Hid _:=hl
 have HLA:Hid _:=hla
 have HOP:Hid _:=hops
 obtain⟨x0,x1,x2,x3⟩:=HBX.out W f.same
 have y1:=f.bk.c1
 have y2:=f.bk.c2
 have y3:=IR.cell f.bk.sp i (by rw[f.bk.ln];exact hi')
 have hi1:(0:Int)<=(i:Int):=by omega
 have hi2:(i:Int)<(n:Int):=by omega
 have HGM:Hid (sl.getD i 0=-1->giM vs0 act i (us,sl)=(us,sl)):=λh=>if_pos h
 have HGN:Hid (¬sl.getD i 0=-1->giM vs0 act i (us,sl)=jl vs0 act i (us,sl) (cnt (vs0.getD i Vl.zero).op)):=λh=>if_neg h
 have HG:Hid (∃G,G=giM vs0 act i (us,sl)):=⟨_,rfl⟩
 clear ri f hS hv hp hz hl hla hops
 by_cases hs:sl.getD i 0=-1
 ·have hsl:((sl.getD i 0)==-1)=true:=by simp;exact hs
  rw[HGM.out hs]
  rw[show sl.getD i 0=-1 from hs] at y3
  go_enter Tryz.func114,Tryz.ntmps114
  go_wp2_with fail
  go_region_held3 (λw'=>w'.cell? ⟨xw,0,none⟩=some (.pointer (some ⟨K,0,none⟩))/\w'.cell? ⟨xi,0,none⟩=some (.int .i64 (i:Int))/\w'.cell? ⟨K,2,none⟩=some (.slice (some ⟨S,0,none⟩) n n)/\w'.cell? ⟨S,i,none⟩=some (.int .i64 (-1))) (go_keep) (fail)
  all_goals
   go_wp2_with fail
   refine bodyPost_ret (v:=.tuple #[]) (by simp[results,Tryz.results114,go_sem]) rfl ?_
   exact⟨rfl,R,vv,BS.keep HF.out.bs (ie W),HF.out.bk.keep (ie W),⟨(ie W).chg,.inl rfl⟩⟩
 ·rw[HGN.out hs]
  have hsl:((sl.getD i 0)==-1)=false:=by simp;exact hs
  obtain⟨q,hq⟩:∃q,q=sl.getD i 0:=⟨_,rfl⟩
  rw[<-hq] at y3 hsl
  clear hq hs
  obtain⟨m,hm⟩:∃m,m=cnt (vs0.getD i Vl.zero).op:=⟨_,rfl⟩
  rw[<-hm] at x2 ⊢
  have HM:Hid _:=hm
  have hm3:m<=3:=by have:=jo (vs0.getD i Vl.zero).op;omega
  clear hm
  go_enter Tryz.func114,Tryz.ntmps114
  go_wp2_with fail
  go_region_held3 (λw'=>w'.cell? ⟨xw,0,none⟩=some (.pointer (some ⟨K,0,none⟩))/\w'.cell? ⟨xi,0,none⟩=some (.int .i64 (i:Int))/\w'.cell? ⟨K,2,none⟩=some (.slice (some ⟨S,0,none⟩) n n)/\w'.cell? ⟨S,i,none⟩=some (.int .i64 q)) (go_keep) (fail)
  all_goals
   go_wp2_with fail
   clear x0 x1 x2 x3 y1 y2 y3
   go_loopw [16] (λx W'=>∃(k:Nat) (R':Option Nat) (vv':Value),k<=m/\x=.int .i64 k/\Hid (RSt W0 W W' lo hi P K A S n u1 u3 rv act base R R' vv' (jl vs0 act i (us,sl) k))) (λx _=>m-(intOf x).toNat)
   case atStart=>exact⟨0,R,vv,Nat.zero_le _,rfl,HF.out.keep (ie W)⟩
   case round=>
    obtain⟨k,R',vv',hk,rfl,hT⟩:=hrel
    by_cases hkm:k<m
    ·have HNX:Hid (jl vs0 act i (us,sl) (k+1)=gkM vs0 act i k (jl vs0 act i (us,sl) k)):=rfl
     have hBz:=HZ.out k (by rw[<-HM.out];omega)
     have hPr:=oK (act:=act) (i:=i) (st:=(us,sl)) HPR.out k
     generalize jl vs0 act i (us,sl) k=st at hT HNX hBz hPr
     obtain⟨us1,sl1⟩:=st
     obtain⟨x0,x1,x2,x3⟩:=HBX.out wr hT.out.same
     obtain⟨g1,g2,g3⟩:=HRI.out.go_ k (by rw[<-HM.out];exact hkm)
     have hop:=HOP.out k (by rw[<-HM.out];exact hkm)
     obtain⟨o,ho⟩:=Int.eq_ofNat_of_zero_le hop.1
     have cO:wr.cell? ⟨go,k,none⟩=some (.int .i64 (o:Int)):=by rw[hT.out.same.cell g1 g2,g3,ho]
     have hoi:o<i:=by omega
     have c1:=hT.out.bk.c1
     have c2:=hT.out.bk.c2
     have cA:=BR.cell hT.out.bk.ac o (by rw[hT.out.bk.al];omega)
     have cS:=IR.cell hT.out.bk.sp i (by rw[hT.out.bk.ln];exact hi')
     obtain⟨d,hd⟩:∃d,d=sl1.getD i 0:=⟨_,rfl⟩
     rw[<-hd] at cS
     have HGK:Hid (gkM vs0 act i k (us1,sl1)=if act.getD o false=true/\ku (vs0.getD i Vl.zero) k=true then jF vs0 o (iW (i:Int) (vs0.getD i Vl.zero) (laM vs0 i) k d us1.length).2 (us1++(iW (i:Int) (vs0.getD i Vl.zero) (laM vs0 i) k d us1.length).1,sl1) else (us1,sl1)):=by
      show _=_
      unfold gkM
      rw[ho,Int.toNat_natCast,<-hd]
     have ho1:(0:Int)<=(o:Int):=by omega
     have ho2:(o:Int)<(n:Int):=by omega
     have hk2:(k:Int)<(mp:Int):=by have h1:=HRI.out.mp_;rw[<-HM.out] at h1;omega
     have hk1:(0:Int)<=(k:Int):=by omega
     cases hact:act.getD o false
     ·rw[hact] at cA
      have R2:Hid (RSt W0 W wr lo hi P K A S n u1 u3 rv act base R R' vv' (jl vs0 act i (us,sl) (k+1))):=by
       show RSt _ _ _ _ _ _ _ _ _ _ _ _ _ _ _ _ _ _ _
       rw[HNX.out,HGK.out,hact,if_neg (by simp)];exact hT.out
      clear hT HNX hBz hPr HGK g1 g2 g3 hop ho hact hd
      go_wp2_with fail
      go_roundw
      case rel=>exact⟨k+1,R',vv',by omega,by go_num,R2⟩
      case measure=>simp[intOf];omega
     ·rw[hact] at cA HGK
      obtain⟨g,hg,e1,e2,cF⟩:=HRI.out.pts.at_ k (by rw[<-HM.out];exact hkm)
      subst hg
      have cG:wr.cell? ⟨g,k,none⟩=some (fv k):=by rw[hT.out.same.cell e1 e2];exact cF
      cases hb:ku (vs0.getD i Vl.zero) k
      ·rw[HRI.out.pts.nil k (by rw[<-HM.out];exact hkm) hb] at cG
       have R2:Hid (RSt W0 W wr lo hi P K A S n u1 u3 rv act base R R' vv' (jl vs0 act i (us,sl) (k+1))):=by
        show RSt _ _ _ _ _ _ _ _ _ _ _ _ _ _ _ _ _ _ _
        rw[HNX.out,HGK.out,hb,if_neg (by simp)];exact hT.out
       have hne:=CY wr
       clear hT HNX hBz hPr HGK g1 g2 g3 hop ho hact hd hb cF
       go_wp2_with fail
       go_roundw
       case rel=>exact⟨k+1,R',vv',by omega,by go_num,R2⟩
       case measure=>simp[intOf];omega
      ·obtain⟨N,caps,ef,hent,hpc⟩:=HRI.out.pts.pc k (by rw[<-HM.out];exact hkm) hb
       rw[ef] at cG
       have hen:=hent (#[.int .i64 d]++caps) wr.drew
       have HPC:Hid (Calls Tryz.prog N (#[.int .i64 d]++caps) wr.drew λe w'=>Bd wr.drew P u1 u3 us1 (ig us1) base R' (iW (i:Int) (vs0.getD i Vl.zero) (laM vs0 i) k d us1.length) e w'):=hpc wr.drew u1 u3 us1 (ig us1) base R' vv' d (hT.out.keep (ie wr)).same hT.out.inr (hT.out.keep (ie wr)).bs hPr hBz.bnd0
       have hsz:=qm (i:Int) (vs0.getD i Vl.zero) (laM vs0 i) k d us1.length (by have:=HL.out i hi';omega) (HL.out i hi').2 HLA.out.1 HLA.out.2
       rw[hb,if_pos ⟨rfl,rfl⟩] at HGK
       generalize iW (i:Int) (vs0.getD i Vl.zero) (laM vs0 i) k d us1.length=M at HPC hsz HGK
       obtain⟨Ml,Mi⟩:=M
       have HT:Hid _:=hT.out
       have HGV:Hid (∀w2 R2 vv2,RSt W0 W w2 lo hi P K A S n u1 u3 rv act base R R2 vv2 (us1++Ml,sl1)->_):=λw2 R2 vv2 (t:RSt W0 W w2 lo hi P K A S n u1 u3 rv act base R R2 vv2 (us1++Ml,sl1))=>E0 w2 P K A S n u1 u3 rv vv2 act (us1++Ml) sl1 base R2 t.bs t.bk t.dj vs0 hPr.app (hBz.bnd (by have:=hsz.1;show Ml.length<=10;have h:Ml.length<=3:=hsz.1;omega) hsz.2.1 (by have h:ig Ml<=3000:=hsz.2.2;omega)) o Mi (by have:=HLT.out;omega) HLT.out.2.2 (HL.out o (by have:=HLT.out;omega)).1 (HL.out o (by have:=HLT.out;omega)).2
       have hMl:Hid (S<lo):=HLT.out.1
       have HDD:Hid (d=sl1.getD i 0):=hd
       have HGR:Hid (lo<=g/\g<hi/\W0.cell? ⟨g,k,none⟩=some (.func (.func N) #[] caps)):=⟨e1,e2,by rw[cF,ef]⟩
       have hne:=CZ wr (.func N) #[] caps
       clear hT hBz hPr g1 g2 g3 hop ho hact hd hb cF hpc ef hsz hent
       have HP2:Hid (Calls Tryz.prog N (#[.int .i64 d]++caps) wr.drew λe w'=>e=.returned (.int .i64 Mi)/\∃R2 vv2,BS w' P u1 u3 (us1++Ml) (ig us1+ig Ml) base R2 vv2/\Stp P R' wr.drew R2 w'):=HPC.out
       have HNN:Hid (jl vs0 act i (us,sl) (k+1)=jF vs0 o Mi (us1++Ml,sl1)):=HNX.out.trans HGK.out
       have HGI:Hid ((jF vs0 o Mi (us1++Ml,sl1)).2.getD i 0=d):=by
        show _=_
        unfold jF
        split
        ·show(sl1.set o Mi).getD i 0=d
         rw[HDD.out,List.getD_eq_getElem?_getD,List.getElem?_set,if_neg (by omega),<-List.getD_eq_getElem?_getD]
        ·show(sl1.set o _).getD i 0=d
         rw[HDD.out,List.getD_eq_getElem?_getD,List.getElem?_set,if_neg (by omega),<-List.getD_eq_getElem?_getD]
       have HSC:Hid (∀w',Same lo hi W0 w'->w'.cell? ⟨g,k,none⟩=some (.func (.func N) #[] caps)):=λw' s'=>by rw[s'.cell HGR.out.1 HGR.out.2.1];exact HGR.out.2.2
       clear HPC HNX HGK
       go_wp2_with fail
       go_region_held3 (λw'=>w'.cell? ⟨xw,0,none⟩=some (.pointer (some ⟨K,0,none⟩))/\w'.cell? ⟨xp,0,none⟩=some (.slice (some ⟨g,0,none⟩) mp cp)/\w'.cell? ⟨g,k,none⟩=some (.func (.func N) #[] caps)/\w'.cell? ⟨xi,0,none⟩=some (.int .i64 (i:Int))/\w'.cell? ⟨K,2,none⟩=some (.slice (some ⟨S,0,none⟩) n n)/\w'.cell? ⟨S,i,none⟩=some (.int .i64 d)) (go_keep) (first
        |(go_at_call 115;refine Calls.mono (HGV.out w2 R2 vv2 HT2.out) ?_;rintro e w3 ⟨rfl,R3,vv3,h3,b3,s3⟩;have HT3:Hid _:=HT2.out.give hMl.out h3 b3 s3;obtain⟨q0,q1,q2,q3⟩:=HBX.out w3 HT3.out.same;have q4:=HSC.out w3 HT3.out.same;have q5:=HT3.out.bk.c2;have q6:=IR.cell HT3.out.bk.sp i (by rw[HT3.out.bk.ln];exact hi');rw[HGI.out] at q6;clear h3 b3 s3)
        |(refine Calls.mono HP2.out ?_;rintro e w2 ⟨rfl,R2,vv2,h2,s2⟩;have HT2:Hid _:=(HT.out.keep (ie wr)).part h2 s2;obtain⟨p0,p1,p2,p3⟩:=HBX.out w2 HT2.out.same;have p4:=HSC.out w2 HT2.out.same;have p5:=HT2.out.bk.c2;have p6:=IR.cell HT2.out.bk.sp i (by rw[HT2.out.bk.ln];exact hi');rw[<-HDD.out] at p6;clear h2 s2))
       all_goals
        have R9:Hid (RSt W0 W w3 lo hi P K A S n u1 u3 rv act base R R3 vv3 (jl vs0 act i (us,sl) (k+1))):=by
         show RSt _ _ _ _ _ _ _ _ _ _ _ _ _ _ _ _ _ _ _
         rw[HNN.out];exact HT3.out
        go_wp2_with fail
        go_roundw
        case rel=>exact⟨k+1,R3,vv3,by omega,by go_num,R9⟩
        case measure=>simp[intOf];omega
    ·obtain rfl:k=m:=by omega
     have HT:Hid _:=hT.out
     clear hT
     go_wp2_with fail
     refine bodyPost_end (v:=.tuple #[]) (by simp[results,Tryz.results114,go_sem]) rfl ?_
     exact⟨rfl,R',vv',HT.out.bs,HT.out.bk,HT.out.stq⟩
def lW (act:List Bool)(v:Vl):Bool:=(List.range (cnt v.op)).any λk=>act.getD (fld v k).toNat false
theorem uW {k:Nat}(h:((List.range k).any λk=>act.getD (fld v k).toNat false)=false)(t:act.getD (fld v k).toNat false=false):((List.range (k+1)).any λk=>act.getD (fld v k).toNat false)=false:=by
 rw[List.range_succ,List.any_append,h]
 simp only[List.any_cons,List.any_nil,Bool.or_false,Bool.false_or]
 exact t
theorem AH (W:World)(P K A S n:Nat)(u1 u3 rv vv:Value)(act:List Bool)(us:List Vl)(sl:List Int)(c:Int)(base:Nat)(R:Option Nat)(h:BS W P u1 u3 us c base R vv)(b:BK W K P A S n rv act sl)(i:Nat)(hi:i<us.length)(hn:us.length=n)(v:Vl)(hv:us.getD i Vl.zero=v)(hops:∀k,k<cnt v.op->0<=fld v k/\fld v k<i):
  Calls Tryz.prog 89 #[.pointer (some ⟨K,0,none⟩),.int .i64 (i:Int)] W λe w'=>e=.returned (.bool (lW act v))/\Kept 0 0 W w':=by
 obtain⟨g,cap,rfl,_,hgl,_,hva⟩:=kU h.own (by omega) rfl
 have hat:=hva.at_ i hi
 rw[hv] at hat
 obtain⟨a0,a1,a2,a3,a4,a5⟩:=hat
 have y0:=b.c0
 have y1:=b.c1
 have p1:=h.c1
 rw[hn] at p1 hi
 have hi1:(0:Int)<=(i:Int):=by omega
 have hi2:(i:Int)<(n:Int):=by omega
 have HB:Hid _:=b
 have HOP:Hid _:=hops
 clear h b hva hgl hv hops
 go_enter Tryz.func89,Tryz.ntmps89
 go_wp2_with fail
 clear a0 a1 a2 a3 a4 a5 y0 y1 p1
 refine Calls.mono (lh W v) ?_
 rintro e w4 ⟨g5,rfl,i5,hg5,k5⟩
 obtain⟨m,hm⟩:∃m,m=cnt v.op:=⟨_,rfl⟩
 have HM:Hid _:=hm
 have hm3:m<=3:=by have:=jo v.op;omega
 have HI:Hid (∀q,q<m->w4.cell? ⟨g5,q,none⟩=some (.int .i64 (fld v q))):=λq hq=>by
  rcases i5.at_ with z0|⟨gi,oi,ei,_,_,_,ci⟩
  ·omega
  ·injection ei with ei
   injection ei with ei1 ei2
   subst ei1 ei2
   have:=ci q (by omega)
   rw[Nat.zero_add,rB v (by omega)] at this
   exact this
 have HB4:Hid _:=HB.out.keep k5
 have HK4:Hid _:=k5
 rw[<-hm]
 clear i5 hg5 k5 hm HB
 go_wp2_with fail
 go_loop [20] (λx=>∃k:Nat,k<=m/\x=.int .i64 k/\Hid (((List.range k).any λk=>act.getD (fld v k).toNat false)=false)) (λx=>m-(intOf x).toNat)
 case atStart=>exact⟨0,Nat.zero_le _,rfl,rfl⟩
 case round=>
  obtain⟨k,hk,rfl,hA⟩:=hrel
  by_cases hlt:k<m
  ·have c:=HI.out k hlt
   have hop:=HOP.out k (by rw[<-HM.out];exact hlt)
   obtain⟨o,ho⟩:=Int.eq_ofNat_of_zero_le hop.1
   rw[ho] at c
   have cA:=BR.cell HB4.out.ac o (by rw[HB4.out.al];omega)
   have y1:=HB4.out.c1
   have ho1:(0:Int)<=(o:Int):=by omega
   have ho2:(o:Int)<(n:Int):=by omega
   cases t:act.getD o false
   ·have R2:Hid _:=uW hA.out (show act.getD (fld v k).toNat false=false by rw[ho,Int.toNat_natCast];exact t)
    rw[t] at cA
    clear hA hop ho
    go_wp2_with fail
    go_round
    case rel=>exact⟨k+1,by omega,by go_num,R2⟩
    case measure=>simp[intOf];omega
   ·have R2:Hid (lW act v=true):=by
     show _=_
     unfold lW
     rw[List.any_eq_true]
     exact⟨k,List.mem_range.2 (by rw[<-HM.out];exact hlt),by rw[ho,Int.toNat_natCast];exact t⟩
    rw[t] at cA
    clear hA hop ho
    go_wp2_with fail
    go_ret
    exact⟨congrArg (λx=>Ending.returned (.bool x)) R2.out.symm,HK4.out⟩
  ·have R2:Hid (lW act v=false):=by
    have:=hA.out
    rw[show k=m by omega,HM.out] at this
    exact this
   clear hA
   go_wp2_with fail
   go_ret
   exact⟨congrArg (λx=>Ending.returned (.bool x)) R2.out.symm,HK4.out⟩
def RuO (W:World)(P K:Nat)(vs0:List Vl)(i:Nat)(e:Ending)(w':World):Prop:=
 ∃xw xi xo xp go a mp cp fv,e=.returned (.func (.func 114) #[] #[.pointer (some ⟨xw,0,none⟩),.pointer (some ⟨xi,0,none⟩),.pointer (some ⟨xo,0,none⟩),.pointer (some ⟨xp,0,none⟩)])/\RuleIn w' W.heap.size w'.heap.size P K vs0 i xw xi xo xp go a mp cp fv/\Kept 0 0 W w'
abbrev lX (t:TypeId)(u:Value):Obj:=.cells #[u] t
theorem Bx.chg {b:Nat}(x:Bx W0 lo W0.heap.size b u)(k:Chg Q W0 W1)(h:¬Q b):Bx W1 lo W1.heap.size b u:=
 ⟨x.lo_,Nat.lt_of_lt_of_le x.hi_ k.size,by rw[k.cell (p:=⟨b,0,none⟩) x.hi_ h];exact x.at_⟩
theorem pK (w:World)(lo:Nat)(h:lo<=w.heap.size)(t:TypeId)(u:Value):Bx (w.alloc (lX t u)) lo (w.alloc (lX t u)).heap.size w.heap.size u:=
 ⟨h,by simp,by rw[World.cell?_alloc_at _ _ w.heap.size 0 rfl];rfl⟩
structure RO1 (w wx:World)(K i:Nat)(v:Vl)(xo go:Nat):Prop where
 bw:Bx wx w.heap.size wx.heap.size w.heap.size (.pointer (some ⟨K,0,none⟩))
 bi:Bx wx w.heap.size wx.heap.size (w.heap.size+1) (.int .i64 (i:Int))
 bo:Bx wx w.heap.size wx.heap.size xo (.slice (some ⟨go,0,none⟩) (cnt v.op) 3)
 go_:∀k,k<cnt v.op->w.heap.size<=go/\go<wx.heap.size/\wx.cell? ⟨go,k,none⟩=some (.int .i64 (fld v k))
 kp:Kept 0 0 w wx
theorem RO1.chg {wx wy:World}(f:RO1 w wx K i v xo go)(k:Chg Q wx wy)(hQ:∀b,Q b->wx.heap.size<=b):RO1 w wy K i v xo go:=
 ⟨f.bw.chg k (λc=>by have:=hQ _ c;have:=f.bw.hi_;omega),f.bi.chg k (λc=>by have:=hQ _ c;have:=f.bi.hi_;omega),f.bo.chg k (λc=>by have:=hQ _ c;have:=f.bo.hi_;omega),λq hq=>by
  obtain⟨a1,a2,a3⟩:=f.go_ q hq
  exact⟨a1,Nat.lt_of_lt_of_le a2 k.size,by rw[k.cell (p:=⟨go,q,none⟩) a2 (λc=>by have:=hQ go c;omega)];exact a3⟩,Chg.kept f.kp k (λb hb=>by have:=hQ b hb;have:=f.kp.size;omega)⟩
theorem ue {w2:World}{g5:Nat}(i5:IS w2 w.heap.size w2.heap.size (some ⟨g5,0,none⟩) (cnt v.op) (iV v)):∀k,k<cnt v.op->w.heap.size<=g5/\g5<w2.heap.size/\w2.cell? ⟨g5,k,none⟩=some (.int .i64 (fld v k)):=λq hq=>by
 rcases i5.at_ with z0|⟨gi,oi,ei,h1,h2,_,ci⟩
 ·omega
 ·injection ei with ei
  injection ei with ei1 ei2
  subst ei1 ei2
  have:=ci q hq
  rw[Nat.zero_add,rB v hq] at this
  exact⟨h1,h2,this⟩
def iS (vs0:List Vl)(x:Nat):Nat->List Bool
 |0=>(List.replicate vs0.length false).set x true
 |m+1=>(iS vs0 x m).set (x+1+m) (lW (iS vs0 x m) (vs0.getD (x+1+m) Vl.zero))
theorem my (vs0:List Vl)(x:Nat):∀m,(iS vs0 x m).length=vs0.length
 |0=>by simp[iS]
 |m+1=>by rw[iS,List.length_set,my vs0 x m]
theorem BK.setA {W:World}(f:BK W K P A S n rv act sl)(d:Dj P K A S R)(o:Nat)(x:Bool):BK (W.setCell ⟨A,o,none⟩ (.bool x)) K P A S n rv (act.set o x) sl:=by
 have k:=iH (S:=λb=>b=A) W A o (.bool x) rfl
 have e:∀q,(W.setCell ⟨A,o,none⟩ (.bool x)).cell? ⟨K,q,none⟩=W.cell? ⟨K,q,none⟩:=λq=>k.cell (p:=⟨K,q,none⟩) f.lt d.ka
 exact⟨by simpa using f.lt,λq=>by rw[World.frozen?_setCell];exact f.fr q,by rw[e];exact f.c0,by rw[e];exact f.c1,by rw[e];exact f.c2,by rw[e];exact f.c3,by rw[List.length_set];exact f.al,f.ln,BR.set f.ac o x,IR.keepC f.sp k (λc=>d.as_ c.symm)⟩
theorem BK.setR {W:World}(f:BK W K P A S n rv act sl)(d:Dj P K A S R)(x:Value):BK (W.setCell ⟨K,3,none⟩ x) K P A S n x act sl:=by
 have k:=iH (S:=λb=>b=K) W K 3 x rfl
 exact⟨by simpa using f.lt,λq=>by rw[World.frozen?_setCell];exact f.fr q,by rw[iB _ _ _ _ _ _ (.inr (by omega))];exact f.c0,by rw[iB _ _ _ _ _ _ (.inr (by omega))];exact f.c1,by rw[iB _ _ _ _ _ _ (.inr (by omega))];exact f.c2,jI _ _ _ _ _ f.c3,f.al,f.ln,BR.keepC f.ac k (λc=>d.ka c.symm),IR.keepC f.sp k (λc=>d.ks c.symm)⟩
abbrev qn (xw xi xo xp:Nat):Value:=.func (.func 114) #[] #[.pointer (some ⟨xw,0,none⟩),.pointer (some ⟨xi,0,none⟩),.pointer (some ⟨xo,0,none⟩),.pointer (some ⟨xp,0,none⟩)]
def RulesL (W:World)(lo P K:Nat)(vs0:List Vl)(x:Nat)(rv:Value)(rs:List Value):Prop:=
 ∀j u,rs[j]? =some u->∃lo' hi' xw xi xo xp go a mp cp fv,lo<=lo'/\hi'<=W.heap.size/\(∀g,rv.ownBlock=some g->g<lo'\/hi'<=g)/\u=qn xw xi xo xp/\RuleIn W lo' hi' P K vs0 (x+1+j) xw xi xo xp go a mp cp fv
theorem RulesL.chg {W:World}{rv':Value}{rs:List Value}(f:RulesL W lo P K vs0 x rv rs)(k:Chg Q W W')(hQ:∀b,b<W.heap.size->Q b->b<lo\/rv.ownBlock=some b)(hr:∀g,rv'.ownBlock=some g->rv.ownBlock=some g\/W.heap.size<=g):RulesL W' lo P K vs0 x rv' rs:=λj u hu=>by
 obtain⟨lo',hi',xw,xi,xo,xp,go,a,mp,cp,fv,h1,h2,h3,h4,h5⟩:=f j u hu
 refine⟨lo',hi',xw,xi,xo,xp,go,a,mp,cp,fv,h1,Nat.le_trans h2 k.size,λg hg=>?_,h4,h5.mono ((Same.refl h2).chg k (λb l h c=>?_)) (Nat.le_refl _) (Nat.le_refl _)⟩
 ·rcases hr g hg with c|c
  ·exact h3 g c
  ·exact .inr (by omega)
 ·rcases hQ b (by omega) c with e|e
  ·omega
  ·have:=h3 b e;omega
theorem RulesL.add {W:World}{rs:List Value}{a:Option Addr}(f:RulesL W lo P K vs0 x rv rs)(hm:rs.length=m)(h1:lo<=lo')(h2:hi'<=W.heap.size)(h3:∀g,rv.ownBlock=some g->g<lo'\/hi'<=g)(h5:RuleIn W lo' hi' P K vs0 (x+1+m) xw xi xo xp go a mp cp fv):RulesL W lo P K vs0 x rv (rs++[qn xw xi xo xp]):=λj u hu=>by
 by_cases hj:j<rs.length
 ·rw[List.getElem?_append_left hj] at hu
  exact f j u hu
 ·rw[List.getElem?_append_right (by omega)] at hu
  have hj':=(List.getElem?_eq_some_iff.1 hu).1
  simp at hj'
  obtain rfl:j=m:=by omega
  rw[hm,Nat.sub_self] at hu
  injection hu with hu
  exact⟨lo',hi',xw,xi,xo,xp,go,a,mp,cp,fv,h1,h2,h3,hu.symm,h5⟩
theorem C3:(Tryz.prog.info? 1).map (λi=>(i.zero,i.size,i.bytes))=some (some .nilFunc,1,8):=by kernel_rfl
structure NB (W w5:World)(lo P K A S n:Nat)(u1 u3 vv rv:Value)(vs0:List Vl)(x m base:Nat)(R:Option Nat)(rs:List Value):Prop where
 bs:BS W P u1 u3 vs0 (ig vs0) base R vv
 bk:BK W K P A S n rv (iS vs0 x m) (List.replicate n (-1))
 row:W.ownsRow lo 1 1 rv m rs
 rl:RulesL W lo P K vs0 x rv rs
 ch:Chg (λb=>b=K\/b=A\/lo<=b) w5 W
 sz:lo<=W.heap.size
theorem NB.keep {W:World}{rs:List Value}(f:NB W w5 lo P K A S n u1 u3 vv rv vs0 x m base R rs)(k:Kept 0 0 W W'):NB W' w5 lo P K A S n u1 u3 vv rv vs0 x m base R rs:=
 ⟨BS.keep f.bs k,f.bk.keep k,iC f.row k,f.rl.chg (k.chg (S:=λ_=>False)) (λ_ _ h=>h.elim) (λ_ h=>.inl h),Chg.andThen f.ch k.chg,Nat.le_trans f.sz k.size⟩
structure NbC (lo P K A S:Nat)(R:Option Nat):Prop where
 dj:Dj P K A S R
 p:P<lo
 k:K<lo
 a:A<lo
 s:S<lo
 r:∀b,R=some b->b<lo
theorem NB.mark {W:World}{rs:List Value}(f:NB W w5 lo P K A S n u1 u3 vv rv vs0 x m base R rs)(c:NbC lo P K A S R)(b:Bool)(hb:b=lW (iS vs0 x m) (vs0.getD (x+1+m) Vl.zero)):BS (W.setCell ⟨A,x+1+m,none⟩ (.bool b)) P u1 u3 vs0 (ig vs0) base R vv/\BK (W.setCell ⟨A,x+1+m,none⟩ (.bool b)) K P A S n rv (iS vs0 x (m+1)) (List.replicate n (-1))/\(W.setCell ⟨A,x+1+m,none⟩ (.bool b)).ownsRow lo 1 1 rv m rs/\RulesL (W.setCell ⟨A,x+1+m,none⟩ (.bool b)) lo P K vs0 x rv rs/\Chg (λb=>b=K\/b=A\/lo<=b) w5 (W.setCell ⟨A,x+1+m,none⟩ (.bool b)):=by
 have k:=iH (S:=λb=>b=A) W A (x+1+m) (.bool b) rfl
 refine⟨BS.setS f.bs c.dj.ap c.dj.ra,?_,ir f.row (λe=>by have:=(ii f.row e).1;have:=c.a;omega),f.rl.chg k (λq _ h=>.inl (by have:=c.a;omega)) (λ_ h=>.inl h),Chg.andThen f.ch (iH W A _ _ (.inr (.inl rfl)))⟩
 have:=f.bk.setA c.dj (x+1+m) b
 rw[iS,<-hb]
 exact this
def NbO (w:World)(P n:Nat)(u1 u3:Value)(vs0:List Vl)(x m base:Nat)(R:Option Nat)(vv:Value)(e:Ending)(w':World):Prop:=
 ∃lo K A S rv rs,e=.returned (.pointer (some ⟨K,0,none⟩))/\NB w' w' lo P K A S n u1 u3 vv rv vs0 x m base R rs/\NbC lo P K A S R/\(w.heap.size<=K/\w.heap.size<=A/\w.heap.size<=S/\w.heap.size<=lo)/\Kept 0 0 w w'
structure NB0 (w wx:World)(P n K A S:Nat):Prop where
 bk:BK wx K P A S n (.slice none 0 0) (List.replicate n false) (List.replicate n (-1))
 kp:Kept 0 0 w wx
 lo_:w.heap.size<=K/\w.heap.size<=A/\w.heap.size<=S
 ne:K≠A/\K≠S/\A≠S
theorem vN (w w3:World)(P n A S:Nat)(k:Kept 0 0 w w3)(ha:BR w3 A (List.replicate n false))(hs:IR w3 S (List.replicate n (-1)))(h1:w.heap.size<=A)(h2:w.heap.size<=S)(h3:A≠S):NB0 w (w3.alloc (.cells #[.pointer (some ⟨P,0,none⟩),.slice (some ⟨A,0,none⟩) n n,.slice (some ⟨S,0,none⟩) n n,.slice none 0 0] 113)) P n w3.heap.size A S:=by
 have kb:=hU 0 0 w3 (.cells #[.pointer (some ⟨P,0,none⟩),.slice (some ⟨A,0,none⟩) n n,.slice (some ⟨S,0,none⟩) n n,.slice none 0 0] 113)
 have hA:=ha.lt
 have hS:=hs.lt
 refine⟨⟨by simp,λo=>World.frozen?_alloc_at _ _ w3.heap.size o rfl,?_,?_,?_,?_,by simp,by simp,BR.keep ha kb (.inr (.inr (Nat.le_refl _))),IR.keep hs kb (.inr (.inr (Nat.le_refl _)))⟩,k.trans kb,⟨k.size,h1,h2⟩,by omega,by omega,h3⟩
 all_goals (rw[World.cell?_alloc_at _ _ w3.heap.size _ rfl];rfl)
theorem BS.chg {W:World}{c:Int}(h:BS W P u1 u3 us c base R vv)(k:Chg Q W W')(hP:¬Q P)(hR:∀b,R=some b->¬Q b):BS W' P u1 u3 us c base R vv:=by
 have e:∀q,W'.cell? ⟨P,q,none⟩=W.cell? ⟨P,q,none⟩:=λq=>k.cell (p:=⟨P,q,none⟩) h.lt hP
 exact⟨Nat.lt_of_lt_of_le h.lt k.size,λq=>by rw[k.frozen (p:=⟨P,q,none⟩) h.lt hP];exact h.free q,by rw[e];exact h.c0,by rw[e];exact h.c1,by rw[e];exact h.c2,by rw[e];exact h.c3,kK h.own k (λg hg=>hR g (by rw[<-h.row];exact hg)),h.row,h.ne,Nat.le_trans h.sz k.size⟩
theorem NB.push {wc w6 w9:World}{rs:List Value}{a:Option Addr}{o:Obj}{g9 cap9:Nat}
  (h:BS wc P u1 u3 vs0 (ig vs0) base R vv/\BK wc K P A S n rv (iS vs0 x (m+1)) (List.replicate n (-1))/\wc.ownsRow lo 1 1 rv m rs/\RulesL wc lo P K vs0 x rv rs/\Chg (λb=>b=K\/b=A\/lo<=b) w5 wc/\lo<=wc.heap.size) (c:NbC lo P K A S R) (k6:Kept 0 0 wc w6) (ri:RuleIn w6 wc.heap.size w6.heap.size P K vs0 (x+1+m) xw xi xo xp go a mp cp fv)
  (hown:w9.ownsRow lo 1 1 (.slice (some ⟨g9,0,none⟩) (m+1) cap9) (m+1) (rs++[qn xw xi xo xp])) (hg:(w6.alloc o).grownBy w9 rv.ownBlock) (ha:rv.ownBlock=some g9\/g9=w6.heap.size+1):
  NB (w9.setCell ⟨K,3,none⟩ (.slice (some ⟨g9,0,none⟩) (m+1) cap9)) w5 lo P K A S n u1 u3 vv (.slice (some ⟨g9,0,none⟩) (m+1) cap9) vs0 x (m+1) base R (rs++[qn xw xi xo xp]):=by
 obtain⟨hbs,hbk,hrow,hrl,hch,hsz⟩:=h
 have ka:=hU 0 0 w6 o
 have kk:=k6.trans ka
 have cg:=kV hg
 have hrb:∀b,rv.ownBlock=some b->lo<=b/\b<wc.heap.size:=λb hb=>ii hrow hb
 have kc:=iH (S:=λb=>b=K) w9 K 3 (.slice (some ⟨g9,0,none⟩) (m+1) cap9) rfl
 have hlen:rs.length=m:=by have:=hrow.1;omega
 have hz6:=k6.size
 have hbk9:BK w9 K P A S n rv (iS vs0 x (m+1)) (List.replicate n (-1)):=(hbk.keep kk).keepC cg (λe=>by have:=hrb _ e;have:=c.k;omega) (λe=>by have:=hrb _ e;have:=c.a;omega) (λe=>by have:=hrb _ e;have:=c.s;omega)
 have hbs9:BS w9 P u1 u3 vs0 (ig vs0) base R vv:=(BS.keep hbs kk).chg cg (λe=>by have:=hrb _ e;have:=c.p;omega) (λb hb e=>by have:=hrb _ e;have:=c.r b hb;omega)
 have hrl6:RulesL w6 lo P K vs0 x rv (rs++[qn xw xi xo xp]):=(hrl.chg (k6.chg (S:=λ_=>False)) (λ_ _ h=>h.elim) (λ_ h=>.inl h)).add hlen hsz (Nat.le_refl _) (λb hb=>.inl (hrb b hb).2) ri
 have hrla:=hrl6.chg (rv':=rv) (ka.chg (S:=λ_=>False)) (λ_ _ h=>h.elim) (λ_ h=>.inl h)
 have hza:(w6.alloc o).heap.size=w6.heap.size+1:=by simp
 have hrl9:RulesL w9 lo P K vs0 x (.slice (some ⟨g9,0,none⟩) (m+1) cap9) (rs++[qn xw xi xo xp]):=hrla.chg cg (λb _ e=>.inr e) (λb hb=>by
  have e:g9=b:=by simpa[Value.ownBlock] using hb
  subst e
  rcases ha with q|q
  ·exact .inl q
  ·exact .inr (by omega))
 have hg9:=ii hown (k:=g9) rfl
 refine⟨hbs9.chg kc (λe=>c.dj.kp e.symm) (λb hb e=>by have:=c.dj.rk;rw[hb,e] at this;exact this rfl),hbk9.setR c.dj _,ir hown (λe=>by simp[Value.ownBlock] at e;have:=c.k;omega),hrl9.chg kc (λb _ e=>.inl (by have:=c.k;omega)) (λ_ h=>.inl h),Chg.andThen hch (Chg.andThen kk.chg (Chg.andThen (cg.mono λb _ e=>.inr (.inr (hrb b e).1)) (kc.mono λb _ e=>.inl e))),?_⟩
 have:=cg.size
 have:=kc.size
 omega
end
section
open Go.RowKit Flt
variable {W0 W1 W':World} {L' b N o lo hi P K L i A g S n Bs base:Nat} {vs0 us:List Vl} {C' C:Int} {v u1 u3 rv vv:Value} {act:List Bool} {R' R row R1:Option Nat} {st:List Vl×List Int} {a:Option Addr}
def SzU (L:Nat)(C:Int)(us:List Vl):Prop:=us.length<=L/\0<=ig us/\ig us<=C
theorem SzU.app {a:List Vl}(h:SzU L C us)(h':SzU L' C' a):SzU (L+L') (C+C') (us++a):=by
 obtain⟨a1,a2,a3⟩:=h
 obtain⟨b1,b2,b3⟩:=h'
 refine⟨by rw[List.length_append];omega,?_,?_⟩<;>(rw[jB];omega)
theorem SzU.mono (h:SzU L C us)(h1:L<=L')(h2:C<=C'):SzU L' C' us:=⟨Nat.le_trans h.1 h1,h.2.1,Int.le_trans h.2.2 h2⟩
theorem SzU.bz (h:SzU L C us)(h1:L<=800000)(h2:C<=800000000):Bz us:=⟨Nat.le_trans h.1 h1,h.2.1,Int.le_trans h.2.2 h2⟩
def LnB (vs0:List Vl):Prop:=∀j,0<=(vs0.getD j Vl.zero).len/\(vs0.getD j Vl.zero).len<=1000
theorem mO (h:∀j,j<vs0.length->1<=(vs0.getD j Vl.zero).len/\(vs0.getD j Vl.zero).len<=1000):LnB vs0:=λj=>by
 by_cases hj:j<vs0.length
 ·have:=h j hj;omega
 ·rw[List.getD_eq_getElem?_getD,List.getElem?_eq_none (by omega)]
  show 0<=(0:Int)/\(0:Int)<=1000
  omega
theorem yg (hL:LnB vs0){p:Int}(h:SzU L C st.1):SzU (L+1) (C+1000) (jF vs0 o p st).1:=by
 unfold jF
 split
 ·exact h.mono (by omega) (by omega)
 ·refine h.app ⟨by simp,?_,?_⟩<;>(simp only[ig];have:=hL o;omega)
theorem C4 (hL:LnB vs0){k:Nat}(h:SzU L C st.1):SzU (L+4) (C+4000) (gkM vs0 act i k st).1:=by
 unfold gkM
 split
 ·have hp:=qm (i:Int) (vs0.getD i Vl.zero) (laM vs0 i) k (st.2.getD i 0) st.1.length (hL i).1 (hL i).2 (hL _).1 (hL _).2
  have:=yg hL (o:=(fld (vs0.getD i Vl.zero) k).toNat) (p:=(iW (i:Int) (vs0.getD i Vl.zero) (laM vs0 i) k (st.2.getD i 0) st.1.length).2) (st:=(st.1++(iW (i:Int) (vs0.getD i Vl.zero) (laM vs0 i) k (st.2.getD i 0) st.1.length).1,st.2)) (SzU.app (L':=3) (C':=3000) h ⟨hp.1,hp.2.1,hp.2.2⟩)
  exact this.mono (by omega) (by omega)
 ·exact h.mono (by omega) (by omega)
theorem pL {vs0:List Vl}(hL:LnB vs0){act:List Bool}{i:Nat}{L:Nat}{C:Int}{st:List Vl×List Int}(h:SzU L C st.1):∀k:Nat,SzU (L+4*k) (C+4000*(k:Int)) (jl vs0 act i st k).1
 |0=>h.mono (by omega) (by omega)
 |k+1=>(C4 hL (pL hL h k)).mono (by omega) (by omega)
theorem yh (hL:LnB vs0)(h:SzU L C st.1):SzU (L+12) (C+12000) (giM vs0 act i st).1:=by
 have:=jo (vs0.getD i Vl.zero).op
 unfold giM
 split
 ·exact h.mono (by omega) (by omega)
 ·exact(pL hL h _).mono (by omega) (by omega)
theorem vO (h:Pre vs0 st.1):Pre vs0 (giM vs0 act i st).1:=by
 unfold giM
 split
 ·exact h
 ·exact oK h _
theorem vP:(giM vs0 act i st).2.length=st.2.length:=by
 unfold giM
 split
 ·rfl
 ·exact oL _
def km (vs0:List Vl)(act:List Bool)(x:Nat)(st:List Vl×List Int)(js:List Nat):List Vl×List Int:=js.foldl (λst j=>giM vs0 act (x+1+j) st) st
theorem qo (vs0:List Vl)(act:List Bool)(x:Nat)(st:List Vl×List Int)(js:List Nat)(j:Nat):km vs0 act x st (js++[j])=giM vs0 act (x+1+j) (km vs0 act x st js):=by simp[km]
theorem pg {vs0:List Vl}(hL:LnB vs0){act:List Bool}{x:Nat}:∀(js:List Nat) (L:Nat) (C:Int) (st:List Vl×List Int),SzU L C st.1->Pre vs0 st.1->SzU (L+12*js.length) (C+12000*(js.length:Int)) (km vs0 act x st js).1/\Pre vs0 (km vs0 act x st js).1/\(km vs0 act x st js).2.length=st.2.length
 |[],L,C,st,h,hp=>⟨h.mono (by simp) (by simp),hp,rfl⟩
 |j::js,L,C,st,h,hp=>by
  obtain⟨a1,a2,a3⟩:=pg hL js (L+12) (C+12000) (giM vs0 act (x+1+j) st) (yh hL h) (vO hp)
  have e:km vs0 act x st (j::js)=km vs0 act x (giM vs0 act (x+1+j) st) js:=rfl
  rw[e]
  refine⟨a1.mono ?_ ?_,a2,by rw[a3,vP]⟩<;>(simp only[List.length_cons];omega)
def lY (m:Nat):List Nat:=(List.range m).map (λi=>m-1-i)
def ky (vs0:List Vl)(s:Nat):List Vl×List Int:=(vs0++[⟨1,1,0,0,0,4607182418800017408⟩],(List.replicate vs0.length (-1)).set s (vs0.length:Nat))
def qp (vs0:List Vl)(x:Nat)(st:List Vl×List Int):List Vl×Int:=
 if st.2.getD x 0=-1 then (st.1++[ik 1 (vs0.getD x Vl.zero).len 0 0 0],(st.1.length:Nat)) else (st.1,st.2.getD x 0)
def grM (vs0:List Vl)(s x:Nat):List Vl×Int:=
 if (iS vs0 x (s-x)).getD s false=true then qp vs0 x (km vs0 (iS vs0 x (s-x)) x (ky vs0 s) (lY (s-x)))
 else (vs0++[ik 1 (vs0.getD x Vl.zero).len 0 0 0],(vs0.length:Nat))
theorem ph {W:World}{e size:Nat}{xs:List Value}(h:W.ownsRow base e size v n xs)(hg:v.ownBlock=some g){o:Obj}(ho:W.heap[g]? =some o):o.isCells=true:=by
 rcases h.2 with⟨rfl,_⟩|⟨g',cap,cur,rfl,_,hc,_⟩
 ·simp[Value.ownBlock] at hg
 ·simp[Value.ownBlock] at hg
  subst hg
  rw[hc] at ho
  cases ho
  rfl
theorem mP {W:World}(h:W.cell? ⟨b,o,none⟩=some v){ob:Obj}(ho:W.heap[b]? =some ob):ob.isCells=true:=by
 cases ob<;>first|rfl|(exfalso;simp[World.cell?,ho] at h)
theorem mQ {W:World}(hr:∀r,row=some r->N<=r/\∃o:Obj,W.heap[r]? =some o/\o.isCells=false)(hc:∀o:Obj,W.heap[b]? =some o->o.isCells=true):¬row=some b:=λe=>by
 obtain⟨_,o,ho,hf⟩:=hr b e
 rw[hc o ho] at hf
 cases hf
theorem StQ.own {Q:Nat->Prop}{W:World}(s:StQ Q R W1 R' W)(g:W.grownBy W' row)(hr:∀r,row=some r->W1.heap.size<=r):StQ Q R W1 R' W':=
 ⟨⟨g.os.trans s.chg.os,g.tape.trans s.chg.tape,g.output.trans s.chg.output,Nat.le_trans s.chg.size g.size,λk hk hn=>by
   rw[g.block k (Nat.lt_of_lt_of_le hk s.chg.size) (λe=>by have:=hr k e.symm;omega)]
   exact s.chg.block k hk hn⟩,s.row⟩
theorem RSt.own {W:World}{R0:Option Nat}(f:RSt W0 W1 W lo hi P K A S n u1 u3 rv act base R0 R vv st)(h01:W0.heap.size<=W1.heap.size)(g:W.grownBy W' row)(hr:∀r,row=some r->W1.heap.size<=r/\∃o:Obj,W.heap[r]? =some o/\o.isCells=false):RSt W0 W1 W' lo hi P K A S n u1 u3 rv act base R0 R vv st:=by
 have k:=kV g
 refine⟨f.same.chg k (λb h1 h2 c=>?_),f.inr,BS.chg f.bs k (mQ hr (λo ho=>mP f.bs.c0 ho)) (λb hb=>mQ hr (λo ho=>ph f.bs.own (by rw[f.bs.row];exact hb) ho)),f.bk.keepC k (mQ hr (λo ho=>mP f.bk.c0 ho)) (mQ hr (λo ho=>?_)) (mQ hr (λo ho=>?_)),f.dj,f.stq.own g (λr e=>(hr r e).1)⟩
 ·have:=(hr b c).1
  have:=f.same.le
  omega
 ·have h:=f.bk.ac
  unfold BR at h
  rw[h] at ho
  cases ho
  rfl
 ·have h:=f.bk.sp
  unfold IR at h
  rw[h] at ho
  cases ho
  rfl
theorem StQ.others {sl:List Int}{c:Int}{W:World}(s:StQ (λb=>b=P\/b=S) R W R' W')(h:BS W P u1 u3 us c base R vv)(b:BK W K P A S n rv act sl):KeepsOthers W W':=
 ⟨s.chg.size,λk o hk ho=>by
  rw[s.chg.block k (Array.getElem?_eq_some_iff.1 hk).1 ?_]
  ·exact hk
  ·rintro ((rfl|rfl)|e)
   ·rw[mP h.c0 hk] at ho;cases ho
   ·have hb:=b.sp
    unfold IR at hb
    rw[hb] at hk
    cases hk
    cases ho
   ·rw[ph h.own (by rw[h.row];exact e) hk] at ho;cases ho⟩
def GI (W0 W1 W:World)(lo P K A S n Bs:Nat)(u1 u3 rv:Value)(act:List Bool)(base:Nat)(R1:Option Nat)(st:List Vl×List Int):Prop:=
 ∃R vv,RSt W0 W1 W lo W0.heap.size P K A S n u1 u3 rv act base R1 R vv st/\Same Bs (Bs+1) W1 W/\R≠some Bs
theorem GI.own {W:World}(f:GI W0 W1 W lo P K A S n Bs u1 u3 rv act base R1 st)(h01:W0.heap.size<=W1.heap.size)(g:W.grownBy W' row)(hr:∀r,row=some r->W1.heap.size<=r/\∃o:Obj,W.heap[r]? =some o/\o.isCells=false):GI W0 W1 W' lo P K A S n Bs u1 u3 rv act base R1 st:=by
 obtain⟨R,vv,h1,h2,h3⟩:=f
 refine⟨R,vv,h1.own h01 g hr,h2.chg (kV g) (λb b1 b2 c=>?_),h3⟩
 have:=(hr b c).1
 have:=h2.le
 omega
def Kpp (lo hi Bs:Nat)(A B:World):Prop:=Same lo hi A B/\Same Bs (Bs+1) A B
theorem Same.put (W:World)(l:Nat)(o o':Obj)(hN:hi<=N)(hl:N<=l)(h:W.heap[l]? =some o):Same lo hi W (W.putObj l o'):=
 ⟨by have:=(Array.getElem?_eq_some_iff.1 h).1;omega,(grownBy_putObj' W l o').size,λb h1 h2=>(grownBy_putObj' W l o').block b (by have:=(Array.getElem?_eq_some_iff.1 h).1;omega) (λe=>by cases e;omega)⟩
theorem AI {W:World}{xw xi xo xp go:Nat}{mp cp:Nat}{fv:Nat->Value}
  (ri:RuleIn W0 lo W0.heap.size P K vs0 i xw xi xo xp go a mp cp fv) (I:GI W0 W1 W lo P K A S n Bs u1 u3 rv act base R1 st) (hS:S<lo) (hlB:lo<=Bs) (hi':i<n) (hv:vs0.length=n) (hp:Pre vs0 st.1) (hz:SzU L C st.1) (hL:L<=700000) (hC:C<=700000000)
  (hl:∀j,j<n->1<=(vs0.getD j Vl.zero).len/\(vs0.getD j Vl.zero).len<=1000) (hops:∀k,k<cnt (vs0.getD i Vl.zero).op->0<=fld (vs0.getD i Vl.zero) k/\fld (vs0.getD i Vl.zero) k<i):
  Calls Tryz.prog 114 #[.pointer (some ⟨xw,0,none⟩),.pointer (some ⟨xi,0,none⟩),.pointer (some ⟨xo,0,none⟩),.pointer (some ⟨xp,0,none⟩)] W λe W'=>e=.returned (.tuple #[])/\KeepsOthers W W'/\Kpp lo W0.heap.size Bs W W'/\GI W0 W1 W' lo P K A S n Bs u1 u3 rv act base R1 (giM vs0 act i st):=by
 obtain⟨R,vv,f,sB,hR⟩:=I
 have hLn:LnB vs0:=mO (by rw[hv];exact hl)
 have f2:RSt W0 W W lo W0.heap.size P K A S n u1 u3 rv act base R R vv (st.1,st.2):=⟨f.same,f.inr,f.bs,f.bk,f.dj,StQ.refl _ _ _⟩
 have hc3:=jo (vs0.getD i Vl.zero).op
 refine Calls.mono (E1 W0 W lo W0.heap.size P K A S n u1 u3 rv vv act st.1 st.2 base R vs0 i xw xi xo xp go a mp cp fv ri f2 hS hi' hv hp (λk hk=>(pL hLn (act:=act) (i:=i) (st:=(st.1,st.2)) hz k).bz (by omega) (by omega)) hl ⟨(hLn _).1,(hLn _).2⟩ hops) ?_
 rintro e W' ⟨rfl,R',vv',h1,h2,h3⟩
 have hP:=f.inr.p
 have hq:∀b,lo<=b->b<W0.heap.size->¬((b=P\/b=S)\/R=some b):=λb b1 b2 c=>by
  rcases c with (c|c)|c
  ·omega
  ·omega
  ·have:=f.inr.r b c;omega
 have hqB:∀b,Bs<=b->b<Bs+1->¬((b=P\/b=S)\/R=some b):=λb b1 b2 c=>by
  obtain rfl:b=Bs:=by omega
  rcases c with (c|c)|c
  ·omega
  ·omega
  ·exact hR c
 have hle:=f.same.le
 have hsz:=f.same.size
 have hB1:=sB.le
 have hB2:=sB.size
 refine⟨rfl,h3.others f.bs f.bk,⟨(Same.refl (by omega)).chg h3.chg hq,(Same.refl (by omega)).chg h3.chg hqB⟩,R',vv',f.give hS h1 h2 h3,sB.chg h3.chg hqB,λe=>?_⟩
 rcases h3.row with c|⟨r,c,hr⟩
 ·rw[c] at e;exact hR e
 ·rw[c] at e;cases e;omega
theorem yi {A B:World}{m cap:Nat}{rs:List Value}(k:Kpp lo hi Bs A B)(hg:0<m->lo<=g/\g<hi)(h:BkI A Bs g m cap a rs):BkI B Bs g m cap a rs:=
 ⟨by rw[k.2.cell (Nat.le_refl _) (Nat.lt_succ_self _)];exact h.box,λj hj=>by
  obtain⟨h1,N,bs,h2,h3⟩:=h.at_ j hj
  have:=hg (by omega)
  exact⟨h1,N,bs,h2,by rw[k.1.cell this.1 this.2];exact h3⟩⟩
def GrO (w:World)(P S:Nat)(u1 u3:Value)(base:Nat)(R:Option Nat)(M:List Vl×Int)(e:Ending)(w':World):Prop:=
 e=.returned (.int .i64 M.2)/\∃R' vv',BS w' P u1 u3 M.1 (ig M.1) base R' vv'/\StQ (λb=>b=P\/b=S) R w R' w'
end
section
open Go.RowKit Flt
attribute [local go_sem] ic ib ia iU
theorem C5 {us:List Vl}{L:Nat}{C:Int}(h:SzU L C us)(hL:L<=700000)(hC:C<=700000000):us.length<=800000/\-1000000000<=ig us/\ig us<=800000000:=by
 obtain⟨a1,a2,a3⟩:=h
 omega
theorem qU (w:World)(lo P K A S n s x base:Nat)(u1 u3 vv rv:Value)(vs0:List Vl)(R:Option Nat)(rs:List Value)(hN:NB w w lo P K A S n u1 u3 vv rv vs0 x (s-x) base R rs)(hC:NbC lo P K A S R)(hn:vs0.length=n)(hl:n<=2000)(hs:s<n)(hx:x<n)
  (hlen:∀j,j<n->1<=(vs0.getD j Vl.zero).len/\(vs0.getD j Vl.zero).len<=1000) (hz:SzU 2000 50000 vs0) (ha:(iS vs0 x (s-x)).getD s false=false):
  Calls Tryz.prog 66 #[.pointer (some ⟨K,0,none⟩),.int .i64 (s:Int),.int .i64 (x:Int)] w λe w'=>GrO w P S u1 u3 base R (grM vs0 s x) e w':=by
 have HG:Hid (grM vs0 s x=(vs0++[ik 1 (vs0.getD x Vl.zero).len 0 0 0],((vs0.length:Nat):Int))):=by
  show _=_
  unfold grM
  rw[if_neg (by rw[ha];simp)]
 have y0:=hN.bk.c0
 have y1:=hN.bk.c1
 have y2:=hN.bk.c2
 have yA:=BR.cell hN.bk.ac s (by rw[hN.bk.al];exact hs)
 rw[ha] at yA
 have yS:=IR.cell hN.bk.sp x (by simp;exact hx)
 rw[show(List.replicate n (-1:Int)).getD x 0=-1 by simp[List.getD_eq_getElem?_getD,hx]] at yS
 have hb:=C5 hz (by omega) (by omega)
 have hxl:=hlen x hx
 have HX:Hid _:=nd w.drew P u1 u3 vs0 (ig vs0) base R vv (vs0.getD x Vl.zero).len (BS.keep hN.bs (ie w)) (by omega) (by omega) (by omega) (by omega) (by omega)
 have HL:Hid _:=qk w.drew P u1 u3 vs0 (ig vs0) base R vv (BS.keep hN.bs (ie w)) x (by omega) (by omega)
 generalize (vs0.getD x Vl.zero).len=L at HX HL HG
 have hs1:(0:Int)<=(s:Int):=by omega
 have hs2:(s:Int)<(n:Int):=by omega
 have hx1:(0:Int)<=(x:Int):=by omega
 have hx2:(x:Int)<(n:Int):=by omega
 have HB:Hid _:=hN.bk
 have HD:Hid _:=hC.dj
 clear hN hlen hz ha hb hxl hn hC
 go_enter Tryz.func66,Tryz.ntmps66
 go_wp2_with fail
 go_region_held3 (λw'=>w'.cell? ⟨K,0,none⟩=some (.pointer (some ⟨P,0,none⟩))) (go_keep) (first
  |(go_at_call 64;refine Calls.mono HL.out ?_;rintro e w1 ⟨rfl,rfl⟩)
  |(go_at_call 63;refine Calls.mono HX.out ?_;rintro e w2 ⟨rfl,R2,vv2,h2,s2⟩;have H2:Hid _:=h2;have S2:Hid _:=s2;have z0:=(HB.out.step HD.out (StQ.trans ⟨(ie w).chg,.inl rfl⟩ s2)).c0;clear h2 s2))
 all_goals
  go_wp2_with fail
  go_ret
  rw[HG.out]
  refine⟨rfl,R2,vv2,?_,?_⟩
  ·show BS _ _ _ _ (vs0++_) (ig (vs0++_)) _ _ _
   rw[jB]
   exact H2.out
  ·exact StQ.trans ⟨(ie w).chg,.inl rfl⟩ (S2.out.mono λb c=>.inl c)
end
end Go.Proofs.YtnlffngpnoodkaaGreat
