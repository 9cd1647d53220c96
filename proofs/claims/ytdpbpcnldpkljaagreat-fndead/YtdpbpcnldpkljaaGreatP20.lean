import Derived.Test.YtdpbpcnldpkljaaGreatP19
namespace Go.Proofs.Z
open Tryz
set_option maxRecDepth 1000000
set_option maxHeartbeats 0
section
open Go.RowKit Flt
attribute [local go_sem] eD eB eA iI
variable {vs0:List Vl} {act:List Bool} {st:List Vl×List Int}
def j7 (vs0:List Vl)(o:Nat)(p:Int)(st:List Vl×List Int):List Vl×List Int:=
 if st.2.getD o 0=-1 then (st.1,st.2.set o p) else (st.1++[eI 2 (vs0.getD o Vl.zero).len (st.2.getD o 0) p 0],st.2.set o (st.1.length:Nat))
def laM (vs0:List Vl)(i:Nat):Int:=(vs0.getD (vs0.getD i Vl.zero).a.toNat Vl.zero).len
def gkM (vs0:List Vl)(act:List Bool)(i k:Nat)(st:List Vl×List Int):List Vl×List Int:=
 if act.getD (fld (vs0.getD i Vl.zero) k).toNat false=true/\me (vs0.getD i Vl.zero) k=true then
  j7 vs0 (fld (vs0.getD i Vl.zero) k).toNat (kS (i:Int) (vs0.getD i Vl.zero) (laM vs0 i) k (st.2.getD i 0) st.1.length).2 (st.1++(kS (i:Int) (vs0.getD i Vl.zero) (laM vs0 i) k (st.2.getD i 0) st.1.length).1,st.2)
 else st
def iS (vs0:List Vl)(act:List Bool)(i:Nat)(st:List Vl×List Int):Nat->List Vl×List Int
 |0=>st
 |k+1=>gkM vs0 act i k (iS vs0 act i st k)
def giM (vs0:List Vl)(act:List Bool)(i:Nat)(st:List Vl×List Int):List Vl×List Int:=
 if st.2.getD i 0=-1 then st else iS vs0 act i st (cnt (vs0.getD i Vl.zero).op)
def SzP (M:List Vl×Int):Prop:=M.1.length<=3/\0<=eX M.1/\eX M.1<=3000
theorem Ch {p:Prop}[Decidable p]{a b:List Vl×Int}(ha:SzP a)(hb:SzP b):SzP (if p then a else b):=by split<;>assumption
theorem tu (i:Int)(v:Vl)(la:Int)(k:Nat)(d:Int)(N:Nat)(h0:0<=v.len)(h1:v.len<=1000)(h2:0<=la)(h3:la<=1000):SzP (kS i v la k d N):=by
 unfold kS
 repeat' (apply Ch)
 all_goals (unfold SzP;simp only[eX,yap,List.length_nil];omega)
theorem Ci {i k:Nat}(h:Pre vs0 st.1):Pre vs0 (gkM vs0 act i k st).1:=by
 unfold gkM j7
 split
 ·split
  ·exact h.app
  ·exact h.app.app
 ·exact h
theorem pq {vs0:List Vl}{act:List Bool}{i:Nat}{st:List Vl×List Int}(h:Pre vs0 st.1):∀k,Pre vs0 (iS vs0 act i st k).1
 |0=>h
 |k+1=>Ci (pq h k)
theorem Cj {i k:Nat}:(gkM vs0 act i k st).2.length=st.2.length:=by
 unfold gkM j7
 split
 ·split<;>simp
 ·rfl
theorem mT {vs0:List Vl}{act:List Bool}{i:Nat}{st:List Vl×List Int}:∀k,(iS vs0 act i st k).2.length=st.2.length
 |0=>rfl
 |k+1=>by rw[iS,Cj,mT k]
def FC (act:List Bool)(v:Vl):Bool:=(List.range (cnt v.op)).any λk=>act.getD (fld v k).toNat false
def ij (vs0:List Vl)(x:Nat):Nat->List Bool
 |0=>(List.replicate vs0.length false).set x true
 |m+1=>(ij vs0 x m).set (x+1+m) (FC (ij vs0 x m) (vs0.getD (x+1+m) Vl.zero))
theorem lC (vs0:List Vl)(x:Nat):∀m,(ij vs0 x m).length=vs0.length
 |0=>by simp[ij]
 |m+1=>by rw[ij,List.length_set,lC vs0 x m]
end
section
open Go.RowKit Flt
variable {vs0 us:List Vl} {L' L i:Nat} {act:List Bool} {C C':Int} {st:List Vl×List Int}
def SzU (L:Nat)(C:Int)(us:List Vl):Prop:=us.length<=L/\0<=eX us/\eX us<=C
theorem SzU.app {a:List Vl}(h:SzU L C us)(h':SzU L' C' a):SzU (L+L') (C+C') (us++a):=by
 obtain⟨a1,a2,a3⟩:=h
 obtain⟨b1,b2,b3⟩:=h'
 refine⟨by rw[yak];omega,?_,?_⟩<;>(rw[my];omega)
theorem SzU.mono (h:SzU L C us)(h1:L<=L')(h2:C<=C'):SzU L' C' us:=⟨yan h.1 h1,h.2.1,Int.le_trans h.2.2 h2⟩
def LnB (vs0:List Vl):Prop:=∀j,0<=(vs0.getD j Vl.zero).len/\(vs0.getD j Vl.zero).len<=1000
theorem nF (h:∀j,j<vs0.length->1<=(vs0.getD j Vl.zero).len/\(vs0.getD j Vl.zero).len<=1000):LnB vs0:=λj=>by
 by_cases hj:j<vs0.length
 ·have:=h j hj;omega
 ·rw[yah,List.getElem?_eq_none xaa]
  show 0<=(0:Int)/\(0:Int)<=1000
  omega
theorem zt (hL:LnB vs0){o:Nat}{p:Int}(h:SzU L C st.1):SzU (L+1) (C+1000) (j7 vs0 o p st).1:=by
 unfold j7
 split
 ·exact h.mono xaa xaa
 ·refine h.app ⟨by simp,?_,?_⟩<;>(simp only[eX];have:=hL o;omega)
theorem FD (hL:LnB vs0){k:Nat}(h:SzU L C st.1):SzU (L+4) (C+4000) (gkM vs0 act i k st).1:=by
 unfold gkM
 split
 ·have hp:=tu (i:Int) (vs0.getD i Vl.zero) (laM vs0 i) k (st.2.getD i 0) st.1.length (hL i).1 (hL i).2 (hL _).1 (hL _).2
  have:=zt hL (o:=(fld (vs0.getD i Vl.zero) k).toNat) (p:=(kS (i:Int) (vs0.getD i Vl.zero) (laM vs0 i) k (st.2.getD i 0) st.1.length).2) (st:=(st.1++(kS (i:Int) (vs0.getD i Vl.zero) (laM vs0 i) k (st.2.getD i 0) st.1.length).1,st.2)) (SzU.app (L':=3) (C':=3000) h ⟨hp.1,hp.2.1,hp.2.2⟩)
  exact this.mono xaa xaa
 ·exact h.mono xaa xaa
theorem rN {vs0:List Vl}(hL:LnB vs0){act:List Bool}{i:Nat}{L:Nat}{C:Int}{st:List Vl×List Int}(h:SzU L C st.1):∀k:Nat,SzU (L+4*k) (C+4000*(k:Int)) (iS vs0 act i st k).1
 |0=>h.mono xaa xaa
 |k+1=>(FD hL (rN hL h k)).mono xaa xaa
theorem FE (hL:LnB vs0)(h:SzU L C st.1):SzU (L+12) (C+12000) (giM vs0 act i st).1:=by
 have:=gX (vs0.getD i Vl.zero).op
 unfold giM
 split
 ·exact h.mono xaa xaa
 ·exact(rN hL h _).mono xaa xaa
theorem Ck (h:Pre vs0 st.1):Pre vs0 (giM vs0 act i st).1:=by
 unfold giM
 split
 ·exact h
 ·exact pq h _
theorem Cl:(giM vs0 act i st).2.length=st.2.length:=by
 unfold giM
 split
 ·rfl
 ·exact mT _
def tv (vs0:List Vl)(act:List Bool)(x:Nat)(st:List Vl×List Int)(js:List Nat):List Vl×List Int:=js.foldl (λst j=>giM vs0 act (x+1+j) st) st
theorem uQ (vs0:List Vl)(act:List Bool)(x:Nat)(st:List Vl×List Int)(js:List Nat)(j:Nat):tv vs0 act x st (js++[j])=giM vs0 act (x+1+j) (tv vs0 act x st js):=by simp[tv]
def zu (m:Nat):List Nat:=(List.range m).map (λi=>m-1-i)
def rO (vs0:List Vl)(s:Nat):List Vl×List Int:=(vs0++[⟨1,1,0,0,0,4607182418800017408⟩],(List.replicate vs0.length (-1)).set s (vs0.length:Nat))
def FF (vs0:List Vl)(x:Nat)(st:List Vl×List Int):List Vl×Int:=
 if st.2.getD x 0=-1 then (st.1++[eI 1 (vs0.getD x Vl.zero).len 0 0 0],(st.1.length:Nat)) else (st.1,st.2.getD x 0)
def grM (vs0:List Vl)(s x:Nat):List Vl×Int:=
 if (ij vs0 x (s-x)).getD s false=true then FF vs0 x (tv vs0 (ij vs0 x (s-x)) x (rO vs0 s) (zu (s-x)))
 else (vs0++[eI 1 (vs0.getD x Vl.zero).len 0 0 0],(vs0.length:Nat))
