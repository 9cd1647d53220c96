import Derived.Test.YtiacbhjphaldlaaGreatDoorP12
namespace Go.Proofs.Z
variable{Zp:Prop}
open Tryz Go.RowKit Flt
set_option maxRecDepth 1000000
set_option maxHeartbeats 0
section
variable{w aq aA:World}{lo P hi T i b:Nat}{vs0:List Vl}{v:Vl}{la:Int}
theorem fI{P a m}(f r c):(store a (.func f r c) m).run P w=stored P w a (.func f r c) m:=run_store P w a _ m rfl
attribute[local go_sem] dI dG dF fI
theorem Bx.grow{W0 u}(x:Bx W0 lo hi b u)(k:Kept 0 0 W0 aq)(h:hi=W0.heap.size)(J:T=aq.heap.size):Bx aq lo T b u:=Aq x k xaa yac (ih k.size)
theorem Vx.grow{W0}(x:Vx W0 lo hi b v)(k:Kept 0 0 W0 aq)(h:hi=W0.heap.size)(J:T=aq.heap.size):Vx aq lo T b v:=Ar x k xaa yac (ih k.size)
theorem PtO.from{ao a7 i e}(k:Kept 0 0 w ao)(h:PtO ao P vs0 i v la e a7):PtO w P vs0 i v la e a7:=by
 obtain⟨a,m,c,bC,z,J,al,bw⟩:=h;exact⟨a,m,c,_,z,J,al.mono (Same.refl yac) k.size yac,k.trans bw⟩
theorem aA.qbg(h:Zp:=by
 obtain rfl|rfl:=(by omega:k=0\/k=1)<;>simp_all[wY,iR,i8]<;>grind):Zp:=h
open aA in
theorem Hl(bH:1<=v.len)(n1:v.len<=1000)(av:v.op=2)(al:M (Kept 0 0 w aA))(a:M (Bx aA w.heap.size aA.heap.size w.heap.size (ge P)))(m:M (Bx aA w.heap.size aA.heap.size (w.heap.size+1) (h0 i)))(l:M (Vx aA w.heap.size aA.heap.size (w.heap.size+2) v))(f:M (Bx aA w.heap.size aA.heap.size (w.heap.size+3) (h0 v.len)))(aF:M (Bx aA w.heap.size aA.heap.size (w.heap.size+4) (.func (.func 214) #[] #[ge w.heap.size,ge (w.heap.size+3)]))):
  ∀t g,g=aA.heap.size->PtO w P vs0 (i:Int) v la (.returned (hZ g 2 2)) (aA.alloc (.cells #[.func (.func 213) #[] #[],.func (.func 213) #[] #[]] t)):=by
  exact qbf
theorem aB.qbg(h:Zp:=by
 obtain rfl|rfl:=(by omega:k=0\/k=1)
 ·simp_all[wY,iR,i8]
 exact xgo):Zp:=h
open aB in
theorem Hm(bH:1<=v.len)(n1:v.len<=1000)(av:v.op=3)(al:M (Kept 0 0 w aA))(a:M (Bx aA w.heap.size aA.heap.size w.heap.size (ge P)))(m:M (Bx aA w.heap.size aA.heap.size (w.heap.size+1) (h0 i)))(l:M (Vx aA w.heap.size aA.heap.size (w.heap.size+2) v))(f:M (Bx aA w.heap.size aA.heap.size (w.heap.size+3) (h0 v.len)))(aF:M (Bx aA w.heap.size aA.heap.size (w.heap.size+4) (.func (.func 214) #[] #[ge w.heap.size,ge (w.heap.size+3)]))):
  ∀t g,g=aA.heap.size->PtO w P vs0 (i:Int) v la (.returned (hZ g 2 2)) (aA.alloc (.cells #[.func (.func 213) #[] #[],.func (.func 214) #[] #[ge w.heap.size,ge (w.heap.size+3)]] t)):=by
  exact qbf
theorem aC.qbg(h:Zp:=by
 obtain rfl|rfl:=(by omega:k=0\/k=1)
 ·refine⟨_,rfl,λ_=>(Hb a.o f.o xaa n1 l.o).cast ?_,λI=>?_⟩
  ·grind[iR]
  grind[i8]
 refine⟨_,rfl,λ_=>(Hc a.o f.o xaa n1 l.o).cast ?_,λI=>?_⟩
 ·grind[iR]
 grind[i8]):Zp:=h
open aC in
theorem Hn(bH:1<=v.len)(n1:v.len<=1000)(av:v.op=4)(al:M (Kept 0 0 w aA))(a:M (Bx aA w.heap.size aA.heap.size w.heap.size (ge P)))(m:M (Bx aA w.heap.size aA.heap.size (w.heap.size+1) (h0 i)))(l:M (Vx aA w.heap.size aA.heap.size (w.heap.size+2) v))(f:M (Bx aA w.heap.size aA.heap.size (w.heap.size+3) (h0 v.len)))(aF:M (Bx aA w.heap.size aA.heap.size (w.heap.size+4) (.func (.func 214) #[] #[ge w.heap.size,ge (w.heap.size+3)]))):
  ∀t g,g=aA.heap.size->PtO w P vs0 (i:Int) v la (.returned (hZ g 2 2)) (aA.alloc (.cells #[.func (.func 215) #[] #[ge w.heap.size,ge (w.heap.size+3),ge (w.heap.size+2)],.func (.func 216) #[] #[ge w.heap.size,ge (w.heap.size+3),ge (w.heap.size+2)]] t)):=by
  exact qbf
theorem aD.qbg(h:Zp:=by
 obtain rfl|rfl:=(by omega:k=0\/k=1)
 ·refine⟨_,rfl,λ_=>(Hd a.o f.o xaa n1 l.o).cast ?_,λI=>?_⟩
  ·grind[iR]
  grind[i8]
 refine⟨_,rfl,λ_=>(He a.o f.o xaa n1 m.o aF.o l.o).cast ?_,λI=>?_⟩
 ·grind[iR]
 grind[i8]):Zp:=h
open aD in
theorem Ho(bH:1<=v.len)(n1:v.len<=1000)(av:v.op=5)(al:M (Kept 0 0 w aA))(a:M (Bx aA w.heap.size aA.heap.size w.heap.size (ge P)))(m:M (Bx aA w.heap.size aA.heap.size (w.heap.size+1) (h0 i)))(l:M (Vx aA w.heap.size aA.heap.size (w.heap.size+2) v))(f:M (Bx aA w.heap.size aA.heap.size (w.heap.size+3) (h0 v.len)))(aF:M (Bx aA w.heap.size aA.heap.size (w.heap.size+4) (.func (.func 214) #[] #[ge w.heap.size,ge (w.heap.size+3)]))):
  ∀t g,g=aA.heap.size->PtO w P vs0 (i:Int) v la (.returned (hZ g 2 2)) (aA.alloc (.cells #[.func (.func 217) #[] #[ge w.heap.size,ge (w.heap.size+3),ge (w.heap.size+2)],.func (.func 218) #[] #[ge w.heap.size,ge (w.heap.size+3),ge (w.heap.size+1),ge (w.heap.size+4),ge (w.heap.size+2)]] t)):=by
  exact qbf
theorem cE.qcv(h:Zp:=by
 exact xgo):Zp:=h
open cE in
theorem Hp(bH:1<=v.len)(n1:v.len<=1000)(av:v.op=6)(al:M (Kept 0 0 w aA))(a:M (Bx aA w.heap.size aA.heap.size w.heap.size (ge P)))(m:M (Bx aA w.heap.size aA.heap.size (w.heap.size+1) (h0 i)))(l:M (Vx aA w.heap.size aA.heap.size (w.heap.size+2) v))(f:M (Bx aA w.heap.size aA.heap.size (w.heap.size+3) (h0 v.len)))(aF:M (Bx aA w.heap.size aA.heap.size (w.heap.size+4) (.func (.func 214) #[] #[ge w.heap.size,ge (w.heap.size+3)]))):
  ∀t g,g=aA.heap.size->PtO w P vs0 (i:Int) v la (.returned (hZ g 1 1)) (aA.alloc (.cells #[.func (.func 214) #[] #[ge w.heap.size,ge (w.heap.size+3)]] t)):=by
  exact qcu
theorem cF.qcv(h:Zp:=by
 refine⟨_,rfl,λ_=>(LB a.o f.o xaa n1 m.o).cast ?_,λI=>?_⟩
 ·grind[iR]
 grind[i8]):Zp:=h
open cF in
theorem DJ(bH:1<=v.len)(n1:v.len<=1000)(av:v.op=13)(al:M (Kept 0 0 w aA))(a:M (Bx aA w.heap.size aA.heap.size w.heap.size (ge P)))(m:M (Bx aA w.heap.size aA.heap.size (w.heap.size+1) (h0 i)))(l:M (Vx aA w.heap.size aA.heap.size (w.heap.size+2) v))(f:M (Bx aA w.heap.size aA.heap.size (w.heap.size+3) (h0 v.len)))(aF:M (Bx aA w.heap.size aA.heap.size (w.heap.size+4) (.func (.func 214) #[] #[ge w.heap.size,ge (w.heap.size+3)]))):
  ∀t g,g=aA.heap.size->PtO w P vs0 (i:Int) v la (.returned (hZ g 1 1)) (aA.alloc (.cells #[.func (.func 219) #[] #[ge w.heap.size,ge (w.heap.size+3),ge (w.heap.size+1)]] t)):=by
  exact qcu
theorem Hq(w P){u1 u3 us c base}(R){Y}(h:BS w P u1 u3 us c base R Y)(ab:us.length<=900000){vs0}(i)(hi:i<us.length){v}(aD:us.getD i h7=v){la}(bH:1<=v.len)(n1:v.len<=1000)(be:0<=v.op/\v.op<=13)(bo:(v.op=9\/v.op=11)->∃j:Nat,v.a=(j:Int)/\j<vs0.length/\(vs0.getD j h7).len=la/\1<=la/\la<=1000):
  Calls prog 203 #[ge P,h0 i] w λe D=>PtO w P vs0 (i:Int) v la e D:=by
 obtain⟨g,cap,rfl,_,aJ,_,C⟩:=jX h.own xaa rfl;have ce:=C.at_ i hi;rw[aD]at ce;have aL:=dE 0 0 w (.cells #[ge P] 95);have y:=dE 0 0 (w.alloc (.cells #[ge P] 95)) (.cells #[h0 i] 3);have a9:(w.alloc (.cells #[ge P] 95)).heap.size=w.heap.size+1:=by simp
 have bj:((w.alloc (.cells #[ge P] 95)).alloc (.cells #[h0 i] 3)).heap.size=w.heap.size+2:=by simp
 have I:(w.alloc (.cells #[ge P] 95)).cell? ⟨w.heap.size,0,none⟩=some (ge P):=by
  rw[World.cell?_alloc_at _ _ w.heap.size 0 rfl];rfl
 have U:((w.alloc (.cells #[ge P] 95)).alloc (.cells #[h0 i] 3)).cell? ⟨w.heap.size+1,0,none⟩=some (h0 i):=by
  rw[World.cell?_alloc_at _ _ (w.heap.size+1) 0 a9.symm];rfl
 have ax:M (Bx ((w.alloc (.cells #[ge P] 95)).alloc (.cells #[h0 i] 3)) w.heap.size (w.heap.size+2) w.heap.size (ge P)):=⟨yac,by omega,by rw[y.cell (p:=⟨w.heap.size,0,none⟩) (by rw[a9];exact yae) xaa];exact I⟩
 have bv:M (Bx ((w.alloc (.cells #[ge P] 95)).alloc (.cells #[h0 i] 3)) w.heap.size (w.heap.size+2) (w.heap.size+1) (h0 i)):=⟨by omega,by omega,U⟩
 have bV:M _:=aL.trans y;have s:=Q bj;obtain⟨n,V⟩:∃n,n=us.length:=⟨_,rfl⟩
 have bP:M (((w.alloc (.cells #[ge P] 95)).alloc (.cells #[h0 i] 3)).cell? ⟨P,1,none⟩=some (hZ g n cap)):=by
  show _=_;rw[(aL.trans y).cell (p:=⟨P,1,none⟩) h.lt xaa,V];exact h.c1
 have cl:M _:=ce.keep aJ (aL.trans y) yaa;have x:M (P<w.heap.size/\g<w.heap.size):=⟨h.lt,aJ⟩
 rw[<-V]at hi ab;have ba:0<=(i:Int):=xaa;have b2:(i:Int)<n:=xaa;clear h C ce aL y a9 bj I U V aJ aD;go_enter func203,ntmps203;go_upto_region 1 with fail;generalize ((w.alloc (.cells #[ge P] 95)).alloc (.cells #[h0 i] 3))=aa at ax bv bV s bP cl⊢;go_cut [5] (λp b4=>p=ge (w.heap.size+2)/\M (At b4 (w.heap.size+2) 0 v)/\M (Kept 0 0 aa b4)/\M (b4.heap.size=w.heap.size+3))
 case first=>
  have bG:=ax.o.at_;have bB:=bv.o.at_;have aQ:=bP.o;obtain⟨cg,a1,a2,a3,a4,bX⟩:=cl.o;have bR:=s.o;have aG:=x.o;have ae:=dE 0 0 aa (ir 0 0 0 0 0 0);have aw:∀b o,b<w.heap.size+2->_:=λb o I=>ae.cell (p:=⟨b,o,none⟩) (by show b<_;omega) xaa;have an:=(aw w.heap.size 0 xaa).trans bG;have ao:=(aw (w.heap.size+1) 0 xaa).trans bB;have ah:=(aw P 1 xaa).trans aQ;have ag:=(aw g (i*6) xaa).trans cg;have A:=(aw g (i*6+1) xaa).trans a1;have a2':=(aw g (i*6+2) xaa).trans a2;have B:=(aw g (i*6+3) xaa).trans a3;have ai:=(aw g (i*6+4) xaa).trans a4;have aj:=(aw g (i*6+5) xaa).trans bX;clear aG ae aw;go_region
  all_goals
   go_wp2_with fail
   go_meet
   have aD:=iB aa v
   rw[s.o]at aD
   exact⟨rfl,aD.keep (by have:=s.o;simp;omega) (dH _) yaa,(dE 0 0 aa _).trans (dH _),by have:=s.o;show(aa.alloc _).heap.size=_;simp;omega⟩
 case rest=>
  obtain⟨rfl,F,bd,t⟩:=hcut;have aB:=dE 0 0 wc (.cells #[h0 v.len] 3);have ad:(wc.alloc (.cells #[h0 v.len] 3)).heap.size=w.heap.size+4:=by have:=t.o;simp;omega
  have am:=dE 0 0 (wc.alloc (.cells #[h0 v.len] 3)) (.cells #[.func (.func 214) #[] #[ge w.heap.size,ge (w.heap.size+3)]] 183);have af:((wc.alloc (.cells #[h0 v.len] 3)).alloc (.cells #[.func (.func 214) #[] #[ge w.heap.size,ge (w.heap.size+3)]] 183)).heap.size=w.heap.size+5:=by simp;have:=t.o;omega
  have al:M _:=bV.o.trans (bd.o.trans (aB.trans am));have a:M _:=ax.o.grow (bd.o.trans (aB.trans am)) s.o.symm rfl;have m:M _:=bv.o.grow (bd.o.trans (aB.trans am)) s.o.symm rfl;have l:M _:=(⟨by omega,by omega,F.o⟩:Vx wc w.heap.size (w.heap.size+3) (w.heap.size+2) v).grow (aB.trans am) t.o.symm rfl;have f:M _:=(⟨by omega,by omega,by rw[World.cell?_alloc_at _ _ (w.heap.size+3) 0 t.o.symm];rfl⟩:Bx (wc.alloc (.cells #[h0 v.len] 3)) w.heap.size (w.heap.size+4) (w.heap.size+3) (h0 v.len)).grow am ad.symm rfl;have aF:M (Bx ((wc.alloc (.cells #[h0 v.len] 3)).alloc (.cells #[.func (.func 214) #[] #[ge w.heap.size,ge (w.heap.size+3)]] 183)) w.heap.size ((wc.alloc (.cells #[h0 v.len] 3)).alloc (.cells #[.func (.func 214) #[] #[ge w.heap.size,ge (w.heap.size+3)]] 183)).heap.size (w.heap.size+4) (.func (.func 214) #[] #[ge w.heap.size,ge (w.heap.size+3)])):=⟨by omega,by omega,by rw[World.cell?_alloc_at _ _ (w.heap.size+4) 0 ad.symm];rfl⟩
  have r:=Q af;obtain⟨bh,aH,aN,aM,aS,aC⟩:=F.o;simp only[Nat.zero_add]at aH aN aM aS aC;clear aB ad am af ax bv bV s bP cl x;go_upto_region 5 with fail;rw[t.o];generalize (wc.alloc (.cells #[h0 v.len] 3)).alloc (.cells #[.func (.func 214) #[] #[ge w.heap.size,ge (w.heap.size+3)]] 183)=aA at al a m l f aF r⊢;clear bh aH aN aM aS aC F bd t;obtain⟨bh,aH,aN,aM,aS,aC⟩:=l.o.at_;simp only[Nat.zero_add]at aH aN aM aS aC;have bG:=a.o.at_;have ei:=aF.o.at_;have ak:=r.o;by_cases aK:v.op=2
  ·have R:M _:=Hl (P:=P) (vs0:=vs0) (la:=la) bH n1 aK al a m l f aF;rw[aK]at bh;exact xco
  by_cases J:v.op=3
  ·have R:M _:=Hm (P:=P) (vs0:=vs0) (la:=la) bH n1 J al a m l f aF;rw[J]at bh;exact xco
  by_cases K:v.op=4
  ·have R:M _:=Hn (P:=P) (vs0:=vs0) (la:=la) bH n1 K al a m l f aF;rw[K]at bh;exact xco
  by_cases z:v.op=5
  ·have R:M _:=Ho (P:=P) (vs0:=vs0) (la:=la) bH n1 z al a m l f aF;rw[z]at bh;exact xco
  by_cases O:v.op=6
  ·have R:M _:=Hp (P:=P) (vs0:=vs0) (la:=la) bH n1 O al a m l f aF;rw[O]at bh;exact xco
  by_cases G:v.op=13
  ·have R:M _:=DJ (P:=P) (vs0:=vs0) (la:=la) bH n1 G al a m l f aF;rw[G]at bh;exact xco
  have u:M ((v.op=7\/v.op=8)->_):=λh=>tL aA P vs0 (i:Int) v la xaa n1 h;have i1:M (_->_):=λh=>vh aA P vs0 (i:Int) v la h bo;by_cases S:v.op=7
  ·have aE:M _:=u.o xaa;have bu:(v.op==2)=false:=by simp;exact aK
   have co:(v.op==3)=false:=by simp;exact J
   have bs:(v.op==4)=false:=by simp;exact K
   have aZ:(v.op==5)=false:=by simp;exact z
   have L:(v.op==6)=false:=by simp;exact O
   have q:(v.op==13)=false:=by simp;exact G
   have H:(v.op==7)=true:=by simp;exact S
   clear S;exact xbx
  by_cases Z:v.op=8
  ·have aE:M _:=u.o xaa;have bu:(v.op==2)=false:=by simp;exact aK
   have co:(v.op==3)=false:=by simp;exact J
   have bs:(v.op==4)=false:=by simp;exact K
   have aZ:(v.op==5)=false:=by simp;exact z
   have L:(v.op==6)=false:=by simp;exact O
   have q:(v.op==13)=false:=by simp;exact G
   have H:(v.op==7)=false:=by simp;exact S
   have X:(v.op==8)=true:=by simp;exact Z
   clear Z;exact xbx
  have aE:M _:=i1.o xaa;have bu:(v.op==2)=false:=by simp;exact aK
  have co:(v.op==3)=false:=by simp;exact J
  have bs:(v.op==4)=false:=by simp;exact K
  have aZ:(v.op==5)=false:=by simp;exact z
  have L:(v.op==6)=false:=by simp;exact O
  have q:(v.op==13)=false:=by simp;exact G
  have H:(v.op==7)=false:=by simp;exact S
  have X:(v.op==8)=false:=by simp;exact Z
  exact xbx
end
section
attribute[local go_sem] dI dG dF fI
variable{aq w A:World}{i1:Nat->Prop}{k lo P ax i hi aH S n G ap base:Nat}{vs0 us a:List Vl}{v:Vl}{u u1 ag u3 Y a5:Value}{act:List Bool}{R R' bi:Option Nat}{st:List Vl×List Int}{sl:List Int}
def jN(vs0:List Vl)(o:Nat)(p:Int)(st:List Vl×List Int):List Vl×List Int:=
 if st.2.getD o 0=-1 then (st.1,st.2.set o p)else (st.1++[dL 2 (vs0.getD o h7).len (st.2.getD o 0) p 0],st.2.set o (st.1.length:Nat))
def laM(vs0:List Vl)(i:Nat):Int:=(vs0.getD (vs0.getD i h7).a.toNat h7).len
def gkM(vs0:List Vl)(act:List Bool)(i k:Nat)(st:List Vl×List Int):List Vl×List Int:=
 if act.getD (fld (vs0.getD i h7) k).toNat false=true/\i8 (vs0.getD i h7) k=true then
  jN vs0 (fld (vs0.getD i h7) k).toNat (iR (i:Int) (vs0.getD i h7) (laM vs0 i) k (st.2.getD i 0) st.1.length).2 (st.1++(iR (i:Int) (vs0.getD i h7) (laM vs0 i) k (st.2.getD i 0) st.1.length).1,st.2)
 else st
def iX(vs0:List Vl)(act:List Bool)(i:Nat)(st:List Vl×List Int):Nat->List Vl×List Int
 |0=>st
 |k+1=>gkM vs0 act i k (iX vs0 act i st k)
def giM(vs0:List Vl)(act:List Bool)(i:Nat)(st:List Vl×List Int):List Vl×List Int:=
 if st.2.getD i 0=-1 then st else iX vs0 act i st (cnt (vs0.getD i h7).op)
theorem StQ.mono{g D}(s:StQ i1 R w R' D)(h:∀b,i1 b->g b):StQ g R w R' D:=
 ⟨s.chg.mono λb _ c=>c.imp (h b) id,s.row⟩
structure BK(W:World)(K P A S n:Nat)(rv:Value)(act:List Bool)(sl:List Int):Prop where
 lt:K<W.heap.size
 fr:∀o,W.frozen? ⟨K,o,none⟩=false
 c0:W.cell? ⟨K,0,none⟩=some (.pointer (some ⟨P,0,none⟩))
 c1:W.cell? ⟨K,1,none⟩=some (.slice (some ⟨A,0,none⟩) n n)
 c2:W.cell? ⟨K,2,none⟩=some (.slice (some ⟨S,0,none⟩) n n)
 c3:W.cell? ⟨K,3,none⟩=some rv
 al:act.length=n
 ln:sl.length=n
 ac:BR W A act
 sp:IR W S sl
structure Dj(P K A S:Nat)(R:Option Nat):Prop where
 kp:K≠P
 ap:A≠P
 sp:S≠P
 ka:K≠A
 ks:K≠S
 as_:A≠S
 rk:R≠some K
 ra:R≠some A
 rs:R≠some S
theorem BK.keepC{W}(f:BK W ax P aH S n ag act sl)(k:Chg i1 W A)(z:¬i1 ax)(J:¬i1 aH)(al:¬i1 S):BK A ax P aH S n ag act sl:=by
 have e:∀o,_:=λo=>k.cell (p:=⟨ax,o,none⟩) f.lt z;exact⟨yaj f.lt k.size,λo=>by rw[k.frozen f.lt z];exact f.fr o,it e f.c0,it e f.c1,it e f.c2,it e f.c3,f.al,f.ln,BR.keepC f.ac k J,IR.keepC f.sp k al⟩
theorem BK.keep{W}(f:BK W ax P aH S n ag act sl)(k:Kept 0 0 W A):BK A ax P aH S n ag act sl:=f.keepC (S:=S) (i1:=λ_=>False) k.chg (λh=>h) (λh=>h) (λh=>h)
theorem BK.step{W}(f:BK W ax P aH S n ag act sl)(d:Dj P ax aH S R)(s:Stp P R W R' A):BK A ax P aH S n ag act sl:=
 f.keepC s.chg (by rintro (c|c);exact d.kp c;exact d.rk c) (by rintro (c|c);exact d.ap c;exact d.ra c) (by rintro (c|c);exact d.sp c;exact d.rs c)
theorem Dj.step{W}(d:Dj P ax aH S R)(s:StQ i1 R W R' A)(bd:ax<W.heap.size)(bo:aH<W.heap.size)(aZ:S<W.heap.size):Dj P ax aH S R':=by
 obtain e|⟨r,e,ah⟩:=s.row
 ·grind
 refine⟨d.kp,d.ap,d.sp,d.ka,d.ks,d.as_,?_,?_,?_⟩<;>grind
theorem BK.set{W}(f:BK W ax P aH S n ag act sl)(d:Dj P ax aH S R)(o x):BK (W.setCell ⟨S,o,none⟩ (h0 x)) ax P aH S n ag act (sl.set o x):=by
 have k:=dV (S:=λb=>b=S) W S o (h0 x) rfl;have e:∀q,_:=λq=>k.cell (p:=⟨ax,q,none⟩) f.lt d.ks;exact⟨by simpa using f.lt,λq=>by rw[World.frozen?_setCell];exact f.fr q,it e f.c0,it e f.c1,it e f.c2,it e f.c3,f.al,by rw[List.length_set];exact f.ln,BR.keepC f.ac k d.as_,IR.set f.sp o x⟩
theorem BS.setS{W o c}(h:BS W P u1 u3 us c base R Y)(F:S≠P)(au:R≠some S):BS (W.setCell ⟨S,o,none⟩ u) P u1 u3 us c base R Y:=by
 have k:=dV (S:=λb=>b=S) W S o u rfl;have e:∀q,_:=λq=>k.cell (p:=⟨P,q,none⟩) h.lt (λc=>F c.symm);exact⟨by simpa using h.lt,λq=>by rw[World.frozen?_setCell];exact h.free q,it e h.c0,it e h.c1,it e h.c2,it e h.c3,dP h.own (it h.row au),h.row,h.ne,by simpa using h.sz⟩
def GvO(W:World)(P K A S n:Nat)(u1 u3 rv:Value)(act:List Bool)(base:Nat)(R:Option Nat)(st:List Vl×List Int)(e:Ending)(w':World):Prop:=
 e=.returned (.tuple #[])/\∃R' vv',BS w' P u1 u3 st.1 (dK st.1) base R' vv'/\BK w' K P A S n rv act st.2/\StQ (λb=>b=P\/b=S) R W R' w'
theorem Ou(W P ax aH S n){u1}(u3){ag Y act}(us sl base){R}(h:BS W P u1 u3 us (dK us) base R Y)(b:BK W ax P aH S n ag act sl)(d:Dj P ax aH S R){vs0}(aB:Pre vs0 us)(B:Bnd us (dK us) 0)(o p)(av:o<n)(aD:vs0.length=n)(ar:1<=(vs0.getD o h7).len)(b9:(vs0.getD o h7).len<=1000):
  Calls prog 205 #[ge ax,h0 o,h0 p] W λe D=>GvO W P ax aH S n u1 u3 ag act base R (jN vs0 o p (us,sl)) e D:=by
 have aP:=b.c0;have aU:=b.c2;have bN:=IR.cell b.sp o (it b.ln av);have af:=IR.free b.sp o;have L:(0:Int)<=o:=xaa;have aK:(o:Int)<n:=xaa;have br:M (∀x,jN vs0 o p (us,sl)=x->_):=λx h=>h;unfold jN;by_cases ai:sl.getD o 0=-1
 ·rw[h3 ai];rw[ai]at bN;have ak:M _:=BS.setS (o:=o) (u:=h0 p) h d.sp d.rs;have bM:M _:=b.set d o p;have bY:M (StQ (λb=>b=P\/b=S) R W R (W.setCell _ (h0 p))):=⟨dV W S o _ (.inl (.inr rfl)),.inl rfl⟩
  clear h b d aB B ai br;go_enter func205,ntmps205;go_wp2_with fail;refine bodyPost_end (v:=.tuple #[]) (by simp[results,results205,go_sem]) rfl ?_;exact⟨rfl,R,_,ak.o,bM.o,bY.o⟩
 rw[h2 ai];have ay:(sl.getD o 0==-1)=false:=by grind
 have be:M _:=iW _ P _ R 2 (vs0.getD o h7).len (sl.getD o 0) p 0 (BS.keep h (dH W)) (ih B.l) (ih B.c0) (ih B.c1) xaa xaa;have bf:M _:=rS P _ R (BS.keep h (dH W)) o (aB.at_ xaa).2 B.l;rw[(aB.at_ (show o<vs0.length by omega)).1]at bf;generalize (vs0.getD o _).len=aO at be bf;generalize sl.getD o 0=q at bN ay be;have aw:=Q b;have aJ:=Q d;have bl:=Q av;clear h b d aB B ai br af ar b9;go_enter func205,ntmps205;go_wp2_with fail
 go_region_held3 (λD=>D.cell? ⟨ax,0,none⟩=some (ge P)/\D.cell? ⟨ax,2,none⟩=some (hZ S n n)/\D.cell? ⟨S,o,none⟩=some (h0 q)) (go_keep) (first
  |(go_at_call 168;refine yai bf.o ?_;rintro e aa ⟨rfl,rfl⟩)
  |(go_at_call 199;refine yai be.o ?_;rintro e Z ⟨rfl,bP,ae,J,az⟩;have ad:Stp P R W bP Z:=StQ.trans ⟨(dH W).chg,.inl rfl⟩ az;have z:=Q ad;have aT:=Q J;have aX:M _:=aw.o.step aJ.o ad;have bK:=aX.o.c0;have bj:=aX.o.c2;have aS:Z.cell? ⟨S,o,none⟩=some (h0 q):=(by rw[ad.chg.cell (p:=⟨S,o,none⟩) aw.o.sp.lt (by rintro (c|c);exact aJ.o.sp c;exact aJ.o.rs c)];exact bN);have eS:=IR.free aX.o.sp o;clear ad J az))
 all_goals
  have r:M _:=aJ.o.step z.o aw.o.lt aw.o.ac.lt aw.o.sp.lt
  have ak:=BS.setS (o:=o) (u:=h0 (us.length:Nat)) aT.o r.o.sp r.o.rs
  have f:M (BS (Z.setCell ⟨S,o,none⟩ (h0 us.length)) P u1 u3 (us++[dL 2 aO q p 0]) (dK (us++[dL 2 aO q p 0])) base bP ae):=by
   show BS _ _ _ _ _ _ _ _ _
   rw[iq];exact ak
  have bM:M _:=aX.o.set r.o o us.length
  have bY:M (StQ (λb=>b=P\/b=S) R W _ (Z.setCell _ (h0 us.length))):=StQ.trans (z.o.mono λb c=>.inl c) ⟨dV _ S o _ (.inl (.inr rfl)),.inl rfl⟩
  clear ak
  go_wp2_with fail
  refine bodyPost_end (v:=.tuple #[]) (by simp[results,results205,go_sem]) rfl ?_
  exact⟨rfl,_,_,f.o,bM.o,bY.o⟩
def SzP(Maa:List Vl×Int):Prop:=Maa.1.length<=3/\0<=dK Maa.1/\dK Maa.1<=3000
theorem Hr{p}[Decidable p]{a b}(F:SzP a)(I:SzP b):SzP (if p then a else b):=by split<;>assumption
theorem rU(i v la k d N)(aC:0<=v.len)(z:v.len<=1000)(J:0<=la)(al:la<=1000):SzP (iR i v la k d N):=by
 unfold iR;repeat' (apply Hr)
 all_goals (unfold SzP;simp only[dK,yap,List.length_nil];omega)
structure Bz(us:List Vl):Prop where
 l:us.length<=800000
 c0:0<=dK us
 c1:dK us<=800000000
theorem Bz.bnd(b:Bz us)(z:a.length<=10)(J:0<=dK a)(al:dK a<=10000):Bnd (us++a) (dK (us++a)) 0:=by
 have:=b.l;have:=b.c0;have:=b.c1;exact⟨by rw[yak];omega,by rw[iq];omega,by rw[iq];omega,by decide,by decide⟩
theorem Bz.bnd0(b:Bz us):Bnd us (dK us) 0:=by
 have:=b.l;have:=b.c0;have:=b.c1;exact⟨by omega,by omega,by omega,by decide,by decide⟩
theorem Hs(h:Pre vs0 st.1):Pre vs0 (gkM vs0 act i k st).1:=by
 unfold gkM jN;split
 ·split
  ·exact h.app
  exact h.app.app
 exact h
theorem oY{vs0 act i st}(h:Pre vs0 st.1):∀k,Pre vs0 (iX vs0 act i st k).1
 |0=>h
 |k+1=>Hs (oY h k)
theorem Ht:(gkM vs0 act i k st).2.length=st.2.length:=by
 unfold gkM jN;split
 ·split<;>simp
 rfl
theorem oZ{vs0 act i st}:∀k,(iX vs0 act i st k).2.length=st.2.length
 |0=>rfl
 |k+1=>by rw[iX,Ht,oZ k]
structure RuleIn(W0:World)(lo hi P K:Nat)(vs0:List Vl)(i xw xi xo xp go:Nat)(a:Option Addr)(mp cp:Nat)(fv:Nat->Value):Prop where
 bw:Bx W0 lo hi xw (.pointer (some ⟨K,0,none⟩))
 bi:Bx W0 lo hi xi (.int .i64 (i:Int))
 bo:Bx W0 lo hi xo (.slice (some ⟨go,0,none⟩) (cnt (vs0.getD i h7).op) 3)
 go_:∀k,k<cnt (vs0.getD i h7).op->lo<=go/\go<hi/\W0.cell? ⟨go,k,none⟩=some (.int .i64 (fld (vs0.getD i h7) k))
 bp:Bx W0 lo hi xp (.slice a mp cp)
 mp_:cnt (vs0.getD i h7).op<=mp
 pts:Pts W0 lo hi P vs0 (i:Int) (vs0.getD i h7) (laM vs0 i) a fv
theorem RuleIn.mono{W0 C T aI af b5 a mp bZ bC}(f:RuleIn W0 lo hi P ax vs0 i aI af G b5 ap a mp bZ bC)(s:Same lo hi W0 aq)(z:C<=lo)(J:hi<=T):RuleIn aq C T P ax vs0 i aI af G b5 ap a mp bZ bC:=by
 have g:∀{b u},Bx _ lo hi b u->Bx _ C T b u:=λx=>⟨ih x.lo_,ih x.hi_,by rw[s.cell x.lo_ x.hi_];exact x.at_⟩
 exact⟨g f.bw,g f.bi,g f.bo,λk H=>by
  obtain⟨a1,a2,a3⟩:=f.go_ k H
  exact⟨by omega,by omega,by rw[s.cell a1 a2];exact a3⟩,g f.bp,f.mp_,f.pts.mono s z J⟩
structure RSt(W0 W1 W:World)(lo hi P K A S n:Nat)(u1 u3 rv:Value)(act:List Bool)(base:Nat)(R0 R:Option Nat)(vv:Value)(st:List Vl×List Int):Prop where
 same:Same lo hi W0 W
 inr:InR lo hi P R
 bs:BS W P u1 u3 st.1 (dK st.1) base R vv
 bk:BK W K P A S n rv act st.2
 dj:Dj P K A S R
 stq:StQ (λb=>b=P\/b=S) R0 W1 R W
theorem RSt.keep{W0 W}(f:RSt W0 aq W lo hi P ax aH S n u1 u3 ag act base bi R Y st)(k:Kept 0 0 W A):RSt W0 aq A lo hi P ax aH S n u1 u3 ag act base bi R Y st:=
 ⟨f.same.chg (k.chg (S:=λ_=>False)) (λ_ _ _ h=>h),f.inr,BS.keep f.bs k,f.bk.keep k,f.dj,f.stq.trans ⟨k.chg,.inl rfl⟩⟩
theorem RSt.part{W0 W}(f:RSt W0 aq W lo hi P ax aH S n u1 u3 ag act base bi R Y (us,sl))(h:BS A P u1 u3 (us++a) (dK us+dK a) base R' a5)(s:Stp P R W R' A):RSt W0 aq A lo hi P ax aH S n u1 u3 ag act base bi R' a5 (us++a,sl):=
 ⟨f.same.step f.inr s,f.inr.step s (yan f.same.le f.same.size),by show BS _ _ _ _ (us++a) (dK (us++a)) _ _ _;rw[iq];exact h,f.bk.step f.dj s,f.dj.step s f.bk.lt f.bk.ac.lt f.bk.sp.lt,f.stq.trans (s.mono λb c=>.inl c)⟩
theorem RSt.give{W0 W aG}(f:RSt W0 aq W lo hi P ax aH S n u1 u3 ag act base bi R Y st)(aZ:S<lo)(h:BS A P u1 u3 aG.1 (dK aG.1) base R' a5)(b:BK A ax P aH S n ag act aG.2)(s:StQ (λb=>b=P\/b=S) R W R' A):RSt W0 aq A lo hi P ax aH S n u1 u3 ag act base bi R' a5 aG:=
 ⟨f.same.chg s.chg (λb z J c=>by
  obtain(c|c)|c:=c
  ·have:=f.inr.p;omega
  ·omega
  ·have:=f.inr.r b c;omega),⟨f.inr.p,λb I=>by
  obtain e|⟨r,e,ah⟩:=s.row
  ·exact f.inr.r b (iv e I)
  ·rw[e]at I
   cases I
   have:=f.same.le
   have:=f.same.size
   exact .inr xaa⟩,h,b,f.dj.step s f.bk.lt f.bk.ac.lt f.bk.sp.lt,f.stq.trans s⟩
theorem LE(w):(binOp .neq 283 .nilFunc .nilFunc).run prog w=.ok (.bool false) w:=by kernel_rfl
theorem LF(w f r c):(binOp .neq 283 (.func f r c) .nilFunc).run prog w=.ok (.bool true) w:=by kernel_rfl
theorem Ov{W0}(W){lo hi}(P ax aH S n){u1 u3 ag Y act us sl base}(R){vs0}(i){aI af G b5 ap}(a){mp bZ bC}(p:RuleIn W0 lo hi P ax vs0 i aI af G b5 ap a mp bZ bC)(f:RSt W0 W W lo hi P ax aH S n u1 u3 ag act base R R Y (us,sl))(aZ:S<lo)(T:i<n)(aD:vs0.length=n)(aB:Pre vs0 us)(bR:∀k,k<=cnt (vs0.getD i h7).op->Bz (iX vs0 act i (us,sl) k).1)(ab:∀j,j<n->1<=(vs0.getD j h7).len/\(vs0.getD j h7).len<=1000)(l:0<=laM vs0 i/\laM vs0 i<=1000)(cn:∀k,k<cnt (vs0.getD i h7).op->0<=fld (vs0.getD i h7) k/\fld (vs0.getD i h7) k<i):
  Calls prog 204 #[ge aI,ge af,ge G,ge b5] W λe D=>GvO W P ax aH S n u1 u3 ag act base R (giM vs0 act i (us,sl)) e D:=by
 have ad:=Q p;have bk:=Q f
 have ay:M (∀D,Same _ _ _ D->D.cell? _=some _/\D.cell? _=some _/\D.cell? _=some _/\D.cell? _=some _):=λD s=>
  ⟨by rw[s.cell p.bw.lo_ p.bw.hi_];exact p.bw.at_,by rw[s.cell p.bi.lo_ p.bi.hi_];exact p.bi.at_,by rw[s.cell p.bo.lo_ p.bo.hi_];exact p.bo.at_,by rw[s.cell p.bp.lo_ p.bp.hi_];exact p.bp.at_⟩
 have aa:M (S<lo/\i<n/\vs0.length=n):=⟨aZ,T,aD⟩
 have a9:=Q aB;have cz:=Q bR;have bf:=Q ab;have r:=Q l;have am:=Q cn;obtain⟨bG,bB,bQ,X⟩:=ay.o W f.same;have aQ:=f.bk.c1;have aU:=f.bk.c2;have bN:=IR.cell f.bk.sp i (it f.bk.ln T);have ba:(0:Int)<=i:=xaa;have b2:(i:Int)<n:=xaa;have a0:M (sl.getD i 0=-1->giM vs0 act i (us,sl)=(us,sl)):=λh=>h3 h;have aL:M (¬sl.getD i 0=-1->giM vs0 act i (us,sl)=iX _ _ i _ _):=λh=>h2 h;have br:M (∃bv,bv=giM vs0 act i (us,sl)):=⟨_,rfl⟩
 clear p f aZ aD aB bR ab l cn;by_cases ai:sl.getD i 0=-1
 ·have cf:((sl.getD i 0)==-1)=true:=by simp;exact ai
  rw[a0.o ai];rw[show sl.getD i 0=-1 from ai]at bN;go_enter func204,ntmps204;go_wp2_with fail;go_region_held3 (λD=>D.cell? ⟨aI,0,none⟩=some (ge ax)/\D.cell? ⟨af,0,none⟩=some (h0 i)/\D.cell? ⟨ax,2,none⟩=some (hZ S n n)/\D.cell? ⟨S,i,none⟩=some (h0 (-1))) (go_keep) (fail)
  all_goals
   go_wp2_with fail
   refine yax (v:=.tuple #[]) (by simp[results,results204,go_sem]) rfl ?_
   exact⟨rfl,R,_,BS.keep bk.o.bs (dH W),bk.o.bk.keep (dH W),⟨(dH W).chg,.inl rfl⟩⟩
 rw[aL.o ai];have cf:((sl.getD i 0)==-1)=false:=by simp;exact ai
 obtain⟨q,an⟩:∃q,q=sl.getD i 0:=⟨_,rfl⟩
 rw[<-an]at bN cf;clear an ai;obtain⟨m,aR⟩:∃m,m=cnt (vs0.getD i h7).op:=⟨_,rfl⟩
 rw[<-aR]at bQ⊢;have O:=Q aR;have bb:m<=3:=ih (kN (vs0.getD i h7).op)
 clear aR;go_enter func204,ntmps204;go_wp2_with fail;go_region_held3 (λD=>D.cell? ⟨aI,0,none⟩=some (ge ax)/\D.cell? ⟨af,0,none⟩=some (h0 i)/\D.cell? ⟨ax,2,none⟩=some (hZ S n n)/\D.cell? ⟨S,i,none⟩=some (h0 q)) (go_keep) (fail)
 all_goals
  go_wp2_with fail
  clear bG bB bQ X aQ aU bN
  go_loopw [16] (λx A=>∃(k:Nat) (R':Option Nat) (a5:Value),k<=m/\x=h0 k/\M (RSt W0 W A lo hi P ax aH S n u1 u3 ag act base R R' a5 (iX vs0 act i (us,sl) k))) (λx _=>m-(intOf x).toNat)
  case atStart=>exact⟨0,R,_,yad,rfl,bk.o.keep (dH W)⟩
  case round=>
   obtain⟨k,R',a5,H,rfl,C⟩:=hrel
   by_cases aA:k<m
   ·have cT:M (iX vs0 act i (us,sl) (k+1)=gkM _ _ i k _):=rfl
    have ct:=cz.o k (by rw[<-O.o];omega)
    have aX:=oY (act:=act) (i:=i) (st:=(us,sl)) a9.o k
    generalize iX _ _ i _ k=st at C cT ct aX
    obtain⟨y,c⟩:=st
    obtain⟨bG,bB,bQ,X⟩:=ay.o _ C.o.same
    obtain⟨bz,aJ,au⟩:=ad.o.go_ k (iv O.o aA)
    have be:=am.o k (iv O.o aA)
    obtain⟨o,av⟩:=Int.eq_ofNat_of_zero_le be.1
    have B:wr.cell? ⟨ap,k,none⟩=some (h0 o):=by rw[C.o.same.cell bz aJ,au,av]
    have g2:o<i:=xaa
    have c1:=C.o.bk.c1
    have c2:=C.o.bk.c2
    have ak:=BR.cell C.o.bk.ac o (ix C.o.bk.al)
    have bu:=IR.cell C.o.bk.sp i (it C.o.bk.ln T)
    obtain⟨d,aT⟩:∃d,d=c.getD i 0:=⟨_,rfl⟩
    rw[<-aT]at bu
    have ej:M (gkM vs0 act i k (y,c)=if act.getD o false=true/\i8 (vs0.getD i h7) k=true then jN vs0 o (iR i (vs0.getD i h7) (laM vs0 i) k d y.length).2 (y++(iR i (vs0.getD i h7) (laM vs0 i) k d y.length).1,c)else (y,c)):=by
     show _=_
     unfold gkM
     rw[av,Int.toNat_natCast,<-aT]
    have L:(0:Int)<=o:=xaa
    have aK:(o:Int)<n:=xaa
    have bc:(k:Int)<mp:=by have z:=ad.o.mp_;rw[<-O.o]at z;omega
    have ew:(0:Int)<=k:=xaa
    cases V:act.getD o false
    ·rw[V]at ak
     have bP:M (RSt W0 W wr lo hi P ax aH S n u1 u3 ag act base R R' a5 (iX vs0 act i (us,sl) (k+1))):=by
      show RSt _ _ _ _ _ _ _ _ _ _ _ _ _ _ _ _ _ _ _
      rw[cT.o,ej.o,V,h2 xac];exact C.o
     clear C cT ct aX ej bz aJ au be av V aT
     go_wp2_with fail
     go_roundw
     case rel=>exact⟨k+1,R',a5,by omega,by go_num,bP⟩
     case measure=>simp[intOf];omega
    ·rw[V]at ak ej
     obtain⟨g,aG,K,a6,d0⟩:=ad.o.pts.at_ k (iv O.o aA)
     subst aG
     have aW:wr.cell? ⟨g,k,none⟩=some (bC k):=by rw[C.o.same.cell K a6];exact d0
     cases I:i8 (vs0.getD i h7) k
     ·rw[ad.o.pts.nil k (iv O.o aA) I]at aW
      have bP:M (RSt W0 W wr lo hi P ax aH S n u1 u3 ag act base R R' a5 (iX vs0 act i (us,sl) (k+1))):=by
       show RSt _ _ _ _ _ _ _ _ _ _ _ _ _ _ _ _ _ _ _
       rw[cT.o,ej.o,I,h2 xac];exact C.o
      have cd:=LE wr
      clear C cT ct aX ej bz aJ au be av V aT I d0
      go_wp2_with fail
      go_roundw
      case rel=>exact⟨k+1,R',a5,by omega,by go_num,bP⟩
      case measure=>simp[intOf];omega
     ·obtain⟨N,aC,aj,aS,aY⟩:=ad.o.pts.pc k (iv O.o aA) I
      rw[aj]at aW
      have aw:=aS (#[h0 d]++aC) wr.drew
      have aP:M (Calls _ N _ _ λe D=>Bd _ P _ _ _ (dK y) _ _ (iR i _ _ k d _) e _):=aY _ _ _ y _ _ _ _ d (C.o.keep (dH _)).same C.o.inr (C.o.keep (dH _)).bs aX ct.bnd0
      have bY:=rU i _ _ k d y.length (ih (bf.o i T)) (bf.o i T).2 r.o.1 r.o.2
      rw[I,h3 ⟨rfl,rfl⟩]at ej
      generalize iR _ _ _ k d _=Maa at aP bY ej
      obtain⟨bI,cG⟩:=Maa
      have bW:=Q C.o
      have a7:M _:=λZ bP ae (t:RSt W0 W _ lo hi P ax aH S n u1 _ ag act _ R bP ae (y++bI,c))=>Ou Z P ax aH S n u3 (y++bI) c base t.bs t.bk t.dj aX.app (ct.bnd (by have:=bY.1;show bI.length<=10;have h:bI.length<=3:=bY.1;omega) bY.2.1 (by have h:dK bI<=3000:=bY.2.2;omega)) o cG (ih aa.o) aa.o.2.2 (bf.o o (ih aa.o)).1 (bf.o o (ih aa.o)).2
      have aE:=Q aa.o.1
      have eT:=Q aT
      have aN:M (lo<=g/\g<hi/\W0.cell? _=some _):=⟨K,a6,by rw[d0,aj]⟩
      have cd:=LF wr (.func N) #[] aC
      clear C ct aX bz aJ au be av V aT I d0 aY aj bY aS
      have b:M (Calls _ N _ _ λe D=>e=.returned (.int _ cG)/\∃bP ae,BS _ P _ _ (y++bI) (dK _+dK bI) _ _ _/\Stp P _ _ _ _):=aP.o
      have aM:M (iX _ _ i _ _=jN _ o cG (y++bI,c)):=cT.o.trans ej.o
      have e6:M ((jN vs0 o cG (y++bI,c)).2.getD i 0=d):=by
       show _=_
       unfold jN
       split
       ·show(c.set o cG).getD i 0=d
        rw[eT.o,yah,List.getElem?_set,h2 xaa,<-yah]
       ·show(c.set o _).getD i 0=d
        rw[eT.o,yah,List.getElem?_set,h2 xaa,<-yah]
      have aV:M (∀D,Same _ _ _ D->D.cell? _=some _):=λD s'=>by rw[s'.cell aN.o.1 aN.o.2.1];exact aN.o.2.2
      clear aP cT ej
      go_wp2_with fail
      go_region_held3 (λD=>D.cell? ⟨aI,0,none⟩=some (ge ax)/\D.cell? ⟨b5,0,none⟩=some (hZ g mp bZ)/\D.cell? ⟨g,k,none⟩=some (.func (.func N) #[] aC)/\D.cell? ⟨af,0,none⟩=some (h0 i)/\D.cell? ⟨ax,2,none⟩=some (hZ S n n)/\D.cell? ⟨S,i,none⟩=some (h0 d)) (go_keep) (first
       |(go_at_call 205;refine yai (a7.o _ _ _ F.o) ?_;rintro e ao ⟨rfl,R3,aF,al,U,bF⟩;have aO:M _:=F.o.give aE.o al U bF;obtain⟨bT,bg,a8,bE⟩:=ay.o _ aO.o.same;have cx:=aV.o _ aO.o.same;have bL:=aO.o.bk.c2;have b9:=IR.cell aO.o.bk.sp i (it aO.o.bk.ln T);rw[e6.o]at b9;clear al U bF)
       |(refine yai b.o ?_;rintro e Z ⟨rfl,bP,ae,J,az⟩;have F:M _:=(bW.o.keep (dH _)).part J az;obtain⟨b1,bw,p2,ah⟩:=ay.o _ F.o.same;have ar:=aV.o _ F.o.same;have p5:=F.o.bk.c2;have bd:=IR.cell F.o.bk.sp i (it F.o.bk.ln T);rw[<-eT.o]at bd;clear J az))
      all_goals
       have bh:M (RSt W0 W ao lo hi P ax aH S n u1 u3 ag act base R R3 aF (iX vs0 act i (us,sl) (k+1))):=by
        show RSt _ _ _ _ _ _ _ _ _ _ _ _ _ _ _ _ _ _ _
        rw[aM.o];exact aO.o
       go_wp2_with fail
       go_roundw
       case rel=>exact⟨k+1,R3,aF,by omega,by go_num,bh⟩
       case measure=>simp[intOf];omega
   ·obtain rfl:k=m:=xaa
    have bW:=Q C.o
    clear C
    go_wp2_with fail
    refine bodyPost_end (v:=.tuple #[]) (by simp[results,results204,go_sem]) rfl ?_
    exact⟨rfl,_,_,bW.o.bs,bW.o.bk,bW.o.stq⟩
def ox(act:List Bool)(v:Vl):Bool:=(List.range (cnt v.op)).any λk=>act.getD (fld v k).toNat false
theorem zb(h:((List.range k).any λk=>act.getD (fld v k).toNat false)=false)(t:act.getD (fld v k).toNat false=false):((List.range (k+1)).any λk=>act.getD (fld v k).toNat false)=false:=by
 rw[List.range_succ,List.any_append,h];simp only[List.any_cons,List.any_nil,Bool.or_false,Bool.false_or];exact t
theorem Hu(W P ax aH S n){u1 u3 ag Y act us sl c base}(R)(h:BS W P u1 u3 us c base R Y)(b:BK W ax P aH S n ag act sl)(i)(hi:i<us.length)(V:us.length=n){v}(aD:us.getD i h7=v)(cn:∀k,k<cnt v.op->0<=fld v k/\fld v k<i):
  Calls prog 190 #[ge ax,h0 i] W λe D=>e=.returned (.bool (ox act v))/\Kept 0 0 W D:=by
 obtain⟨g,cap,rfl,_,aJ,_,C⟩:=jX h.own xaa rfl;have ce:=C.at_ i hi;rw[aD]at ce;obtain⟨cg,a1,a2,a3,a4,bX⟩:=ce;have aP:=b.c0;have aQ:=b.c1;have bw:=h.c1;rw[V]at bw hi;have ba:(0:Int)<=i:=xaa;have b2:(i:Int)<n:=xaa;have aw:=Q b;have am:=Q cn;clear h b C aJ aD cn;go_enter func190,ntmps190;go_wp2_with fail;clear cg a1 a2 a3 a4 bX aP aQ bw;refine yai (ms W v) ?_;rintro e a7 ⟨b1,rfl,l,aj,F⟩;obtain⟨m,aR⟩:∃m,m=cnt v.op:=⟨_,rfl⟩
 have O:=Q aR;have bb:m<=3:=ih (kN v.op)
 have cb:M (∀q,q<m->a7.cell? _=some _):=λq an=>by
  obtain bK|⟨aL,r,j,_,_,_,f⟩:=l.at_
  ·omega
  ·injection j with j
   injection j with p s
   subst p s
   have:=f q xaa
   rw[Nat.zero_add,tX v xaa]at this
   exact this
 have af:M _:=aw.o.keep F;have aZ:=Q F;rw[<-aR];clear l aj F aR aw;go_wp2_with fail;go_loop [20] (λx=>∃k:Nat,k<=m/\x=h0 k/\M (((List.range k).any λk=>act.getD (fld v k).toNat false)=false)) (λx=>m-(intOf x).toNat)
 case atStart=>exact⟨0,yad,rfl,rfl⟩
 case round=>
  obtain⟨k,H,rfl,bo⟩:=hrel;by_cases aV:k<m
  ·have c:=cb.o k aV;have be:=am.o k (iv O.o aV);obtain⟨o,av⟩:=Int.eq_ofNat_of_zero_le be.1;rw[av]at c;have ak:=BR.cell af.o.ac o (ix af.o.al);have aQ:=af.o.c1;have L:(0:Int)<=o:=xaa;have aK:(o:Int)<n:=xaa;cases t:act.getD o false
   ·have bP:M _:=zb bo.o (show act.getD _ _=false by rw[av,Int.toNat_natCast];exact t);rw[t]at ak;clear bo be av;go_wp2_with fail;go_round
    case rel=>exact⟨k+1,by omega,by go_num,bP⟩
    case measure=>simp[intOf];omega
   have bP:M (ox act v=true):=by
    show _=_;unfold ox;rw[List.any_eq_true];exact⟨k,List.mem_range.2 (iv O.o aV),by rw[av,Int.toNat_natCast];exact t⟩
   rw[t]at ak;clear bo be av;exact xgp
  have bP:M (ox act v=false):=by
   have:=bo.o;rw[show k=m by omega,O.o]at this;exact this
  clear bo;exact xgp
def RuO(W:World)(P K:Nat)(vs0:List Vl)(i:Nat)(e:Ending)(w':World):Prop:=
 ∃xw xi xo xp go a mp cp fv,e=.returned (.func (.func 204) #[] #[.pointer (some ⟨xw,0,none⟩),.pointer (some ⟨xi,0,none⟩),.pointer (some ⟨xo,0,none⟩),.pointer (some ⟨xp,0,none⟩)])/\RuleIn w' W.heap.size w'.heap.size P K vs0 i xw xi xo xp go a mp cp fv/\Kept 0 0 W w'
abbrev oy(t:TypeId)(u:Value):Obj:=.cells #[u] t
theorem Bx.chg{W0 b}(x:Bx W0 lo W0.heap.size b u)(k:Chg i1 W0 aq)(h:¬i1 b):Bx aq lo aq.heap.size b u:=
 ⟨x.lo_,yaj x.hi_ k.size,by rw[k.cell x.hi_ h];exact x.at_⟩
theorem qV(w:World)(lo)(h:lo<=w.heap.size)(t){u}:Bx (w.alloc (oy t u)) lo (w.alloc (oy t u)).heap.size w.heap.size u:=
 ⟨h,by simp,by simp_all⟩
structure RO1(w wx:World)(K i:Nat)(v:Vl)(xo go:Nat):Prop where
 bw:Bx wx w.heap.size wx.heap.size w.heap.size (.pointer (some ⟨K,0,none⟩))
 bi:Bx wx w.heap.size wx.heap.size (w.heap.size+1) (.int .i64 (i:Int))
 bo:Bx wx w.heap.size wx.heap.size xo (.slice (some ⟨go,0,none⟩) (cnt v.op) 3)
 go_:∀k,k<cnt v.op->w.heap.size<=go/\go<wx.heap.size/\wx.cell? ⟨go,k,none⟩=some (.int .i64 (fld v k))
 kp:Kept 0 0 w wx
theorem RO1.chg{b4 m}(f:RO1 w b4 ax i v G ap)(k:Chg i1 b4 m)(O:∀b,i1 b->b4.heap.size<=b):RO1 w m ax i v G ap:=
 ⟨f.bw.chg k (λc=>ip (O _ c) f.bw.hi_),f.bi.chg k (λc=>ip (O _ c) f.bi.hi_),f.bo.chg k (λc=>ip (O _ c) f.bo.hi_),λq an=>by
  obtain⟨a1,a2,a3⟩:=f.go_ q an
  exact⟨a1,yaj a2 k.size,by rw[k.cell a2 (λc=>by grind)];exact a3⟩,Chg.kept f.kp k (λb I=>ip (O b I) f.kp.size)⟩
theorem wZ{Z b1}(l:IS Z w.heap.size Z.heap.size (some ⟨b1,0,none⟩) (cnt v.op) (fy v)):∀k,k<cnt v.op->w.heap.size<=b1/\b1<Z.heap.size/\Z.cell? ⟨b1,k,none⟩=some (h0 (fld v k)):=λq an=>by
 obtain bK|⟨aL,r,j,z,J,_,f⟩:=l.at_<;>grind[tX]
theorem LH(w P ax aH S n){u1 u3 ag Y act vs0 sl base}(R)(h:BS w P u1 u3 vs0 (dK vs0) base R Y)(b:BK w ax P aH S n ag act sl)(V:vs0.length=n)(ab:n<=2000)(i)(hi:i<n)(bH:1<=(vs0.getD i h7).len)(n1:(vs0.getD i h7).len<=1000)(be:0<=(vs0.getD i h7).op/\(vs0.getD i h7).op<=13)(bo:((vs0.getD i h7).op=9\/(vs0.getD i h7).op=11)->∃j:Nat,(vs0.getD i h7).a=(j:Int)/\j<vs0.length/\(vs0.getD j h7).len=laM vs0 i/\1<=laM vs0 i/\laM vs0 i<=1000):
  Calls prog 191 #[ge ax,h0 i] w λe D=>RuO w P ax vs0 i e D:=by
 obtain⟨g,cap,rfl,_,aJ,_,C⟩:=jX h.own xaa rfl;have aL:=dE 0 0 w (oy 262 (ge ax));have y:=dE 0 0 (w.alloc (oy 262 (ge ax))) (oy 3 (h0 i));have a9:(w.alloc (oy 262 (ge ax))).heap.size=w.heap.size+1:=by simp
 have bj:((w.alloc (oy 262 (ge ax))).alloc (oy 3 (h0 i))).heap.size=w.heap.size+2:=by simp
 have af:M _:=(qV w _ yac _).chg (y.chg (S:=λ_=>False)) (λh=>h);have aw:=qV (w.alloc (oy 262 (ge ax))) w.heap.size xaa 3 (u:=h0 i);rw[a9]at aw;have X:=Q aw;have bV:M _:=aL.trans y;have s:=Q bj;have t:M _:=BS.keep h (aL.trans y);have ao:M _:=b.keep (aL.trans y);have cl:M _:=(C.at_ i xaa).keep aJ (aL.trans y) yaa;have x:M (g<w.heap.size/\P<w.heap.size/\ax<w.heap.size):=⟨aJ,h.lt,b.lt⟩
 have az:=Q b.c0;have K:M _:=λA aT=>Hq A P R (BS.keep h aT) xaa i xaa rfl bH n1 be bo;have aM:=Q V;have ba:(0:Int)<=i:=xaa;have b2:(i:Int)<n:=xaa;generalize aA:vs0.getD i _=v at cl K bH n1 be bo;have am:=Q aA;clear h b C aJ aL y a9 bj aw bo aA bH n1 be;go_enter func191,ntmps191;go_upto_region 1 with fail;generalize (w.alloc _).alloc _=aa at af X bV s t ao cl⊢;go_cut [5] (λp b4=>∃G ap:Nat,p=ge G/\M (RO1 w b4 ax i v G ap))
 case first=>
  have bG:=af.o.at_;have bB:=X.o.at_;have aP:=ao.o.c0;have aQ:=t.o.c1;rw[aM.o]at aQ;obtain⟨cg,a1,a2,a3,a4,bX⟩:=cl.o;have bR:=s.o;have aG:=x.o;have f:∀D,Kept 0 0 aa D->∀b o,b<w.heap.size+2->_:=λD L b o I=>L.cell (p:=⟨b,o,none⟩) (by show b<_;omega) xaa;have c:M (∀D,Kept 0 0 _ D->D.cell? _=some _/\D.cell? _=some _/\D.cell? _=some _/\D.cell? _=some _/\D.cell? _=some _/\D.cell? _=some _/\D.cell? _=some _/\D.cell? _=some _/\D.cell? _=some _/\D.cell? _=some _):=λD L=>⟨(f _ L _ 0 xaa).trans bG,(f _ L _ 0 xaa).trans bB,(f _ L ax 0 xaa).trans aP,(f _ L P 1 xaa).trans aQ,(f _ L g _ xaa).trans cg,(f _ L g _ xaa).trans a1,(f _ L g _ xaa).trans a2,(f _ L g _ xaa).trans a3,(f _ L g _ xaa).trans a4,(f _ L g _ xaa).trans bX⟩
  have aO:M (∀Z b1,Kept 0 0 _ Z->(∀k,k<cnt _->w.heap.size<=b1/\b1<Z.heap.size/\Z.cell? _=some _)->∀G,Bx _ _ _ G _->RO1 w _ ax i v _ _):=λZ b1 k aG G ar=>
   ⟨af.o.chg (k.chg (S:=λ_=>False)) (λh=>h),X.o.chg (k.chg (S:=λ_=>False)) (λh=>h),ar,aG,bV.o.trans k⟩
  have ad:M (∀Z,Kept 0 0 (aa.alloc (oy 23 (.slice none 0 0))) Z->Z.cell? ⟨aa.heap.size,0,none⟩=some (.slice none 0 0)/\Z.frozen? ⟨aa.heap.size,0,none⟩=false):=λZ k=>⟨by rw[k.cell (p:=⟨aa.heap.size,0,none⟩) xac xaa,World.cell?_alloc_at _ _ aa.heap.size 0 rfl];rfl,by rw[k.frozen (p:=⟨aa.heap.size,0,none⟩) xac xaa];exact World.frozen?_alloc_at _ _ aa.heap.size 0 rfl⟩
  clear aG f bR
  go_region_held3 (λD=>D.cell? ⟨w.heap.size,0,none⟩=some (ge ax)/\D.cell? ⟨w.heap.size+1,0,none⟩=some (h0 i)/\D.cell? ⟨ax,0,none⟩=some (ge P)/\D.cell? ⟨P,1,none⟩=some (hZ g n cap)/\D.cell? ⟨g,i*6,none⟩=some (h0 v.op)/\D.cell? ⟨g,i*6+1,none⟩=some (h0 v.len)/\D.cell? ⟨g,i*6+2,none⟩=some (h0 v.a)/\D.cell? ⟨g,i*6+3,none⟩=some (h0 v.b)/\D.cell? ⟨g,i*6+4,none⟩=some (h0 v.c)/\D.cell? ⟨g,i*6+5,none⟩=some (.float .f64 v.k)) (first|go_keep|exact c.o _ ((dH aa).trans (dE 0 0 _ _))|exact c.o _ ((dE 0 0 aa _).trans (dH _))|exact c.o _ (((dE 0 0 aa _).trans ae).new (d9 (lo:=aa.heap.size) (hi:=aa.heap.size+1) Z ⟨aa.heap.size,0,none⟩ _ yab) yac)) (first
   |(go_at_call 194;first
    |(refine yai (ms aa.drew v) ?_;rintro e Z ⟨b1,rfl,l,aj,F⟩;have ae:=(dH aa).trans F;have av:=wZ l;obtain⟨bT,bg,a8,bE,cx,bL,b9,H,T,B⟩:=c.o Z ae)
    |(refine yai (ms (aa.alloc (oy 23 _)).drew v) ?_;rintro e Z ⟨b1,rfl,l,aj,F⟩;have ae:=(dH _).trans F;have av:=wZ l;obtain⟨bK,ai⟩:=ad.o _ ae;obtain⟨bT,bg,a8,bE,cx,bL,b9,H,T,B⟩:=c.o _ ((dE 0 0 _ _).trans ae))))
  all_goals
   first
   |(have bm:M (RO1 w (Z.alloc (oy 23 _)) ax i v _ _):=aO.o _ b1 (ae.trans (dE 0 0 _ _)) (λq an=>by
      obtain⟨z,J,al⟩:=av q an
      exact⟨by have:=s.o;have bl:aa.heap.size<=b1:=z;omega,by simp;omega,by rw[(dE 0 0 _ _).cell J xaa];exact al⟩) _ (qV _ _ (ip bV.o.size ae.size) _)
     clear aO ad c av l aj F ae bG bB aP aQ cg a1 a2 a3 a4 bX
     go_wp2_with fail
     go_meet
     grind)
   |(have bm:M _:=aO.o _ b1 (((dE 0 0 _ _).trans ae).new (d9 _ _ _ yab) yac) (λq an=>by
      obtain⟨z,J,al⟩:=av q an
      have bl:(aa.alloc _).heap.size<=b1:=z
      simp at bl
      exact⟨ih s.o,by simpa using J,by rw[dR (.inl xaa)];exact al⟩) _ ⟨ih bV.o.size,by have h:=ae.size;simp at h⊢;omega,eR bK⟩
     clear aO ad c av l aj F ae bG bB aP aQ cg a1 a2 a3 a4 bX
     go_wp2_with fail
     go_meet
     exact⟨_,_,rfl,bm⟩)
 case rest=>
  obtain⟨G,ap,rfl,au⟩:=hcut;have c:M (∀D,Kept 0 0 wc D->D.cell? ⟨w.heap.size,0,none⟩=some (ge ax)/\D.cell? ⟨w.heap.size+1,0,none⟩=some (h0 i)/\D.cell? ⟨ax,0,none⟩=some (ge P)):=λD L=>⟨by rw[L.cell (p:=⟨w.heap.size,0,none⟩) au.o.bw.hi_ xaa];exact au.o.bw.at_,by rw[L.cell (p:=⟨w.heap.size+1,0,none⟩) au.o.bi.hi_ xaa];exact au.o.bi.at_,by rw[(au.o.kp.trans L).cell (p:=⟨ax,0,none⟩) x.o.2.2 xaa];exact az.o⟩
  obtain⟨bG,bB,aP⟩:=c.o _ (Kept.refl _ _ _);have ad:M (∀Z,Kept 0 0 (wc.alloc (oy 281 (.slice none 0 0))) Z->Z.cell? ⟨wc.heap.size,0,none⟩=some (.slice none 0 0)/\Z.frozen? ⟨wc.heap.size,0,none⟩=false):=λZ k=>⟨by rw[k.cell (p:=⟨wc.heap.size,0,none⟩) xac xaa,World.cell?_alloc_at _ _ wc.heap.size 0 rfl];rfl,by rw[k.frozen (p:=⟨wc.heap.size,0,none⟩) xac xaa];exact World.frozen?_alloc_at _ _ wc.heap.size 0 rfl⟩
  have ay:=au.o.bw.hi_;have U:=au.o.bi.hi_
  have ak:M (∀m (i1:Nat->Prop),Chg i1 wc m->(∀b,i1 b->wc.heap.size<=b)->∀b5 a mp bZ bC,Bx m w.heap.size m.heap.size b5 (.slice a mp bZ)->cnt v.op<=mp->Pts m w.heap.size m.heap.size P vs0 (i:Int) v (laM vs0 i) a bC->RuO w P ax vs0 i (.returned (.func (.func 204) #[] #[ge w.heap.size,ge (w.heap.size+1),ge G,ge b5])) m):=λm i1 k O b5 a mp bZ bC ar aR aB=>by
   have r:=au.o.chg k O
   refine⟨_,_,_,_,ap,a,_,_,bC,rfl,⟨r.bw,r.bi,?_,?_,ar,?_,?_⟩,r.kp⟩
   ·rw[am.o];exact r.bo
   ·rw[am.o];exact r.go_
   ·rw[am.o];exact aR
   ·rw[am.o];exact aB
  have aS:=Q au.o.kp;have aE:∀(fn:Fn) (first cap:Array _) (w:World),(Instr.makeFunc fn first cap).run prog w=.ok _ w:=λ_ _ _ _=>rfl;clear au af X t ao cl;go_wp2_with fail
  go_region_held3 (λD=>D.cell? ⟨w.heap.size,0,none⟩=some (ge ax)/\D.cell? ⟨w.heap.size+1,0,none⟩=some (h0 i)/\D.cell? ⟨ax,0,none⟩=some (ge P)) (first|go_keep|exact c.o _ ((dH wc).trans (dE 0 0 _ _))|exact c.o _ ((dE 0 0 wc _).trans (dH _))|exact c.o _ (((dE 0 0 _ _).trans ae).new (d9 _ _ _ yab) yac)) (first
   |(go_at_call 203;first
    |(refine yai (K.o _ (aS.o.trans (dH _))) ?_;rintro e Z ⟨a2,bv,c2,aC,rfl,aD,ah,F⟩;have ae:=(dH _).trans F;obtain⟨bT,bg,a8⟩:=c.o _ ae)
    |(refine yai (K.o (wc.alloc (oy 281 _)).drew (aS.o.trans ((dE 0 0 _ _).trans (dH _)))) ?_;rintro e Z ⟨a2,bv,c2,aC,rfl,aD,ah,F⟩;have ae:=(dH _).trans F;obtain⟨bK,ai⟩:=ad.o _ ae;obtain⟨bT,bg,a8⟩:=c.o _ ((dE 0 0 _ _).trans ae))))
  all_goals
   first
   |(have bm:M _:=ak.o (Z.alloc (oy 281 _)) (λ_=>False) (ae.trans (dE 0 0 _ _)).chg (λ_ h=>h.elim) _ _ _ c2 _ (qV _ _ (ip aS.o.size ae.size) _) aD (ah.mono ((Same.refl yac).chg ((dE 0 0 _ _).chg) (λ_ _ _ h=>h)) aS.o.size (dE 0 0 _ _).size)
     clear ak c ad K ah ae F bG bB aP ay U
     go_wp2_with fail
     go_ret
     exact bm.o)
   |(have bm:M _:=ak.o _ _ (Chg.andThen ((dE 0 0 _ _).trans ae).chg (dV _ _ 0 _ rfl)) (λb h=>by omega) _ _ _ c2 _ ⟨aS.o.size,by have h:=ae.size;simp at h⊢;omega,eR bK⟩ aD (ah.mono ((Same.refl yac).chg (dV _ _ 0 _ rfl) (λb z _ e=>by have bl:(wc.alloc _).heap.size<=b:=z;simp at bl;omega)) (by have z:=aS.o.size;show w.heap.size<=(wc.alloc _).heap.size;simp;omega) xac)
     clear ak c ad K ah ae F bG bB aP ay U
     go_wp2_with fail
     go_ret
     exact bm.o)
