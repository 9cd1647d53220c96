import Derived.Test.YtnlffngpnoodkaaGreatP42
import Derived.Test.YtnlffngpnoodkaaGreatP32
namespace Go.Proofs.YtnlffngpnoodkaaGreat
set_option maxRecDepth 1000000
set_option maxHeartbeats 0
section
open Go.RowKit Flt
attribute [local go_sem] ic ib ia
variable {w0 wS w:World} {Q R g m c j:Nat} {u1 u2 u3:Value} {ins outs:List Int} {us vs:List Vl}
def whV (xs:List Int)(i:Nat)(v:Vl):Vl:=
 if v.op=1 then {v with k:=floatOfInt .f64 ((kr xs i:Int)%5-2)}
 else if v.op=5 then {v with op:=4}
 else if v.op=7 then {v with op:=2}
 else if v.op=8 then {v with op:=2,c:=0}
 else if v.op=13 then {v with op:=6}
 else v
def whU (xs:List Int)(vs:List Vl):Nat->List Vl
 |0=>vs
 |k+1=>(whU xs vs k).set k (whV xs k ((whU xs vs k).getD k Vl.zero))
theorem jp (xs:List Int)(vs:List Vl):∀k,(whU xs vs k).length=vs.length
 |0=>rfl
 |k+1=>by rw[whU,List.length_set,jp xs vs k]
theorem pT (xs:List Int)(vs:List Vl)(j:Nat)(hj:j<vs.length):∀k,(whU xs vs k).getD j Vl.zero=if j<k then whV xs j (vs.getD j Vl.zero) else vs.getD j Vl.zero
 |0=>by rw[if_neg (by omega)];rfl
 |k+1=>by
  rw[whU,List.getD_eq_getElem?_getD,List.getElem?_set]
  by_cases e:k=j
  ·subst e
   rw[if_pos rfl,jp,if_pos hj,if_pos (by omega),pT xs vs k hj k,if_neg (by omega)]
   rfl
  ·rw[if_neg e,<-List.getD_eq_getElem?_getD,pT xs vs j hj k]
   by_cases h:j<k
   ·rw[if_pos h,if_pos (by omega)]
   ·rw[if_neg h,if_neg (by omega)]
structure Wg (w0 wS W:World)(Q R:Nat)(u1 u2 u3:Value)(ins:List Int)(us:List Vl)(outs:List Int):Prop where
 dg:DG W w0.heap.size u1 u2 u3 ins us outs
 k0:Kept 0 0 w0 W
 bx:RB W Q u1 u2 u3
 rs:RB W R jw jw jw
 nr:∀b,u1.ownBlock=some b\/u2.ownBlock=some b\/u3.ownBlock=some b->b≠Q/\b≠R
 le:w0.heap.size<=R
 ch:Chg (λb=>u2.ownBlock=some b) wS W
 lR:wS.heap.size<=R
theorem nt (us:List Vl)(j:Nat)(v:Vl)(hj:j<us.length):(us.set j v).getD j Vl.zero=v:=by
 rw[List.getD_eq_getElem?_getD,List.getElem?_set,if_pos rfl,if_pos hj]
 rfl
theorem DG.put6 {B:Nat}(f:DG w B u1 (.slice (some ⟨g,0,none⟩) m c) u3 ins us outs)(v:Vl)(hj:j<us.length)(hk:v.k<18446744073709551616):
  DG ((((((w.setCell ⟨g,j*6,none⟩ (.int .i64 v.op)).setCell ⟨g,j*6+1,none⟩ (.int .i64 v.len)).setCell ⟨g,j*6+2,none⟩ (.int .i64 v.a)).setCell ⟨g,j*6+3,none⟩ (.int .i64 v.b)).setCell ⟨g,j*6+4,none⟩ (.int .i64 v.c)).setCell ⟨g,j*6+5,none⟩ (.float .f64 v.k)) B u1 (.slice (some ⟨g,0,none⟩) m c) u3 ins (us.set j v) outs:=by
 have hk0:(us.getD j Vl.zero).k<18446744073709551616:=by
  rw[List.getD_eq_getElem?_getD,List.getElem?_eq_getElem hj]
  exact f.k _ (List.getElem_mem hj)
 generalize e0:us.getD j Vl.zero=u at hk0
 have f1:=f.setV (j:=j) (q:=0) (x:=.int .i64 v.op) (v':=⟨v.op,u.len,u.a,u.b,u.c,u.k⟩) hj (by omega) (by rw[e0];rfl) hk0
 have f2:=f1.setV (j:=j) (q:=1) (x:=.int .i64 v.len) (v':=⟨v.op,v.len,u.a,u.b,u.c,u.k⟩) (by rw[List.length_set];exact hj) (by omega) (by rw[nt _ _ _ hj];rfl) hk0
 rw[List.set_set] at f2
 have f3:=f2.setV (j:=j) (q:=2) (x:=.int .i64 v.a) (v':=⟨v.op,v.len,v.a,u.b,u.c,u.k⟩) (by rw[List.length_set];exact hj) (by omega) (by rw[nt _ _ _ hj];rfl) hk0
 rw[List.set_set] at f3
 have f4:=f3.setV (j:=j) (q:=3) (x:=.int .i64 v.b) (v':=⟨v.op,v.len,v.a,v.b,u.c,u.k⟩) (by rw[List.length_set];exact hj) (by omega) (by rw[nt _ _ _ hj];rfl) hk0
 rw[List.set_set] at f4
 have f5:=f4.setV (j:=j) (q:=4) (x:=.int .i64 v.c) (v':=⟨v.op,v.len,v.a,v.b,v.c,u.k⟩) (by rw[List.length_set];exact hj) (by omega) (by rw[nt _ _ _ hj];rfl) hk0
 rw[List.set_set] at f5
 have f6:=f5.setV (j:=j) (q:=5) (x:=.float .f64 v.k) (v':=v) (by rw[List.length_set];exact hj) (by omega) (by rw[nt _ _ _ hj];rfl) hk
 rw[List.set_set] at f6
 exact f6
theorem Wg.put6 (f:Wg w0 wS w Q R u1 (.slice (some ⟨g,0,none⟩) m c) u3 ins us outs)(v:Vl)(hj:j<us.length)(hk:v.k<18446744073709551616)(ob:Obj):
  Wg w0 wS (((((((w.setCell ⟨g,j*6,none⟩ (.int .i64 v.op)).setCell ⟨g,j*6+1,none⟩ (.int .i64 v.len)).setCell ⟨g,j*6+2,none⟩ (.int .i64 v.a)).setCell ⟨g,j*6+3,none⟩ (.int .i64 v.b)).setCell ⟨g,j*6+4,none⟩ (.int .i64 v.c)).setCell ⟨g,j*6+5,none⟩ (.float .f64 v.k)).alloc ob) Q R u1 (.slice (some ⟨g,0,none⟩) m c) u3 ins (us.set j v) outs:=by
 have d:=f.dg.put6 v hj hk
 have S:∀(W:World) (o:Nat) (x:Value),Chg (λb=>b=g) W (W.setCell ⟨g,o,none⟩ x):=λW o x=>iH W g o x rfl
 have c6:=((((((S w (j*6) (.int .i64 v.op)).andThen (S _ (j*6+1) (.int .i64 v.len))).andThen (S _ (j*6+2) (.int .i64 v.a))).andThen (S _ (j*6+3) (.int .i64 v.b))).andThen (S _ (j*6+4) (.int .i64 v.c))).andThen (S _ (j*6+5) (.float .f64 v.k)))
 have hg:=(ii f.dg.r2 rfl).1
 have hn:=f.nr g (.inr (.inl rfl))
 generalize ((((((w.setCell ⟨g,j*6,none⟩ (.int .i64 v.op)).setCell ⟨g,j*6+1,none⟩ (.int .i64 v.len)).setCell ⟨g,j*6+2,none⟩ (.int .i64 v.a)).setCell ⟨g,j*6+3,none⟩ (.int .i64 v.b)).setCell ⟨g,j*6+4,none⟩ (.int .i64 v.c)).setCell ⟨g,j*6+5,none⟩ (.float .f64 v.k))=W at d c6
 have ka:=hU 0 0 W ob
 exact⟨d.kept ka (Nat.zero_le _),(Chg.kept f.k0 c6 λi e=>by subst e;exact hg).trans ka,(jC f.bx c6 λe=>hn.1 e.symm).kept ka (.inr (Nat.zero_le _)),(jC f.rs c6 λe=>hn.2 e.symm).kept ka (.inr (Nat.zero_le _)),f.nr,f.le,(f.ch.andThen (c6.mono λb _ e=>by subst e;rfl)).andThen ka.chg,f.lR⟩
theorem Wg.fin (f:Wg w0 wS w Q R u1 u2 u3 ins us outs)(x y z:Value):
  DG (((w.setCell ⟨R,0,none⟩ x).setCell ⟨R,1,none⟩ y).setCell ⟨R,2,none⟩ z) w0.heap.size u1 u2 u3 ins us outs/\Kept 0 0 w0 (((w.setCell ⟨R,0,none⟩ x).setCell ⟨R,1,none⟩ y).setCell ⟨R,2,none⟩ z)/\Chg (λb=>u2.ownBlock=some b) wS (((w.setCell ⟨R,0,none⟩ x).setCell ⟨R,1,none⟩ y).setCell ⟨R,2,none⟩ z):=by
 have S:∀(W:World) (o:Nat) (x:Value),Kept R (R+1) W (W.setCell ⟨R,o,none⟩ x):=λW o x=>it W ⟨R,o,none⟩ _ (.inl ⟨Nat.le_refl _,Nat.lt_succ_self _⟩)
 have kk:=((S w 0 x).trans (S _ 1 y)).trans (S _ 2 z)
 have C:∀(W:World) (o:Nat) (x:Value),Chg (λb=>b=R) W (W.setCell ⟨R,o,none⟩ x):=λW o x=>iH W R o x rfl
 have cc:=((C w 0 x).andThen (C _ 1 y)).andThen (C _ 2 z)
 generalize ((w.setCell ⟨R,0,none⟩ x).setCell ⟨R,1,none⟩ y).setCell ⟨R,2,none⟩ z=W at kk cc
 have own:∀{u:Value} {xs:List Value} {m e s:Nat},w.ownsRow w0.heap.size e s u m xs->(∀b,u.ownBlock=some b->b≠R)->W.ownsRow w0.heap.size e s u m xs:=λo h=>iR o kk λb hb=>by have:=h b hb;omega
 have hd:=f.dg
 exact⟨⟨own hd.r1 λb hb=>(f.nr b (.inl hb)).2,own hd.r2 λb hb=>(f.nr b (.inr (.inl hb))).2,own hd.r3 λb hb=>(f.nr b (.inr (.inr hb))).2,hd.a12,hd.a13,hd.a23,hd.k,Nat.le_trans hd.sz kk.size⟩,Chg.kept f.k0 cc λi e=>by have:=f.le;omega,Chg.new f.ch cc λi h e=>by have:=f.lR;omega⟩
theorem zk (f:DG w w0.heap.size u1 u2 u3 ins vs outs)(k0:Kept 0 0 w0 w):Wg w0 w ((w.alloc (.cells #[u1,u2,u3] 26)).alloc iw) w.heap.size (w.heap.size+1) u1 u2 u3 ins vs outs:=by
 have k1:=hU 0 0 w (.cells #[u1,u2,u3] 26)
 have k2:=hU 0 0 (w.alloc (.cells #[u1,u2,u3] 26)) iw
 have hb:=kj (S:=λ_=>False) w _ #[u1,u2,u3] 26 (k2.chg) (λc=>c)
 have hN:=i9 (w.alloc (.cells #[u1,u2,u3] 26))
 rw[show(w.alloc (.cells #[u1,u2,u3] 26)).heap.size=w.heap.size+1 by simp] at hN
 refine⟨f.kept (k1.trans k2) (Nat.zero_le _),k0.trans (k1.trans k2),⟨hb.2.2,hb.1 0,hb.1 1,hb.1 2,hb.2.1 0,hb.2.1 1,hb.2.1 2⟩,hN,?_,by have:=f.sz;omega,(k1.trans k2).chg,by omega⟩
 rintro b (c|c|c)
 ·have:=(ii f.r1 c).2
  omega
 ·have:=(ii f.r2 c).2
  omega
 ·have:=(ii f.r3 c).2
  omega
theorem we {am a1 a2 a3:Option Addr}{nm cm n1 c1 n2 c2 n3 c3:Nat}{xs:List Int}(k0:Kept 0 0 w0 w)(hy:YS w0 am nm xs)(hm:nm<=1048576)(f:DG w w0.heap.size (.slice a1 n1 c1) (.slice a2 n2 c2) (.slice a3 n3 c3) ins vs outs)(hl:n2=vs.length)(hn:n2<=3000):
  Calls Tryz.prog 18 #[ip a1 n1 c1 a2 n2 c2 a3 n3 c3,.slice am nm cm] w λe w'=>e=.returned (ip a1 n1 c1 a2 n2 c2 a3 n3 c3)/\DG w' w0.heap.size (.slice a1 n1 c1) (.slice a2 n2 c2) (.slice a3 n3 c3) ins (whU xs vs n2) outs/\Kept 0 0 w0 w'/\Chg (λb=>(Value.slice a2 n2 c2).ownBlock=some b) w w':=by
 have HF:Hid _:=f
 have HY:Hid _:=hy
 have HK:Hid _:=k0
 have HL:Hid (n2=vs.length):=hl
 clear f hy k0 hl
 go_enter Tryz.func18,Tryz.ntmps18
 go_wp2_with fail
 go_loopw [5] (λi W=>∃k:Nat,k<=n2/\i=.int .i64 k/\Hid (Wg w0 w W w.heap.size (w.heap.size+1) (.slice a1 n1 c1) (.slice a2 n2 c2) (.slice a3 n3 c3) ins (whU xs vs k) outs)) (λi _=>n2-(intOf i).toNat)
 case atStart=>exact⟨0,Nat.zero_le _,rfl,zk HF.out HK.out⟩
 case round=>
  obtain⟨k,hk,rfl,hA⟩:=hrel
  have hs:=hA.out.bx.sz
  have hs':=hA.out.rs.sz
  by_cases hlt:k<n2
  ·have r2:=hA.out.dg.r2
   rw[jp,<-HL.out] at r2
   obtain⟨g,cp,eu,_,hg2,hat⟩:=iY r2 ((jp _ _ _).trans HL.out.symm) hlt
   cases eu
   have hfz:∀o,wr.frozen? ⟨g,o,none⟩=false:=λo=>r2.frozenAt o
   have hj:k<(whU xs vs k).length:=by rw[jp,<-HL.out];exact hlt
   have hv:((whU xs vs k).getD k Vl.zero).k<18446744073709551616:=by
    rw[List.getD_eq_getElem?_getD,List.getElem?_eq_getElem hj]
    exact hA.out.dg.k _ (List.getElem_mem hj)
   have HP:Hid (∀v:Vl,v.k<18446744073709551616->v=whV xs k ((whU xs vs k).getD k Vl.zero)->∀ob,Wg w0 w (((((((wr.setCell ⟨g,k*6,none⟩ (.int .i64 v.op)).setCell ⟨g,k*6+1,none⟩ (.int .i64 v.len)).setCell ⟨g,k*6+2,none⟩ (.int .i64 v.a)).setCell ⟨g,k*6+3,none⟩ (.int .i64 v.b)).setCell ⟨g,k*6+4,none⟩ (.int .i64 v.c)).setCell ⟨g,k*6+5,none⟩ (.float .f64 v.k)).alloc ob) w.heap.size (w.heap.size+1) (.slice a1 n1 c1) (.slice (some ⟨g,0,none⟩) n2 c2) (.slice a3 n3 c3) ins (whU xs vs (k+1)) outs):=λv h1 h2 ob=>by
    have:=hA.out.put6 v hj h1 ob
    rw[h2] at this ⊢
    exact this
   clear r2 hj
   obtain⟨y0,y1,y2,y3,y4,y5⟩:=hat
   have q1:=hA.out.bx.q1
   have HA:Hid _:=hA.out.k0
   clear hA
   generalize (whU xs vs k).getD k Vl.zero=v at y0 y1 y2 y3 y4 y5 hv HP
   by_cases z1:v.op=1
   ·have HT:Hid (∀ob:Obj,Calls Tryz.prog 19 #[.slice am nm cm,.int .i64 (k:Int)] (wr.alloc ob) λe w'=>e=.returned (.int .i64 (kr xs k:Int))/\w'=wr.alloc ob):=λob=>Cb (HY.out.keep (HA.out.trans (hU 0 0 wr ob))) hm k
    have htk:=nh HY.out k
    have HP1:Hid _:=HP.out {v with k:=floatOfInt .f64 ((kr xs k:Int)%5-2)} (yr (lk _ (by omega))) (by unfold whV;rw[if_pos z1])
    rw[z1] at y0
    clear HP
    generalize kr xs k=t at HT htk HP1
    go_wp2_with first
     |(go_at_call 19;refine Calls.mono (HT.out _) ?_;rintro _ _ ⟨rfl,rfl⟩)
    go_roundw
    case rel=>exact⟨k+1,by omega,by go_num,by have:=HP1.out;rw[z1] at this;exact this _⟩
    case measure=>simp[intOf];omega
   by_cases z5:v.op=5
   ·have HP1:Hid _:=HP.out {v with op:=4} hv (by unfold whV;rw[if_neg z1,if_pos z5])
    rw[z5] at y0
    clear HP z1
    go_wp2
    go_roundw
    case rel=>exact⟨k+1,by omega,by go_num,HP1.out _⟩
    case measure=>simp[intOf];omega
   by_cases z7:v.op=7
   ·have HP1:Hid _:=HP.out {v with op:=2} hv (by unfold whV;rw[if_neg z1,if_neg z5,if_pos z7])
    rw[z7] at y0
    clear HP z1 z5
    go_wp2
    go_roundw
    case rel=>exact⟨k+1,by omega,by go_num,HP1.out _⟩
    case measure=>simp[intOf];omega
   by_cases z8:v.op=8
   ·have HP1:Hid _:=HP.out {v with op:=2,c:=0} hv (by unfold whV;rw[if_neg z1,if_neg z5,if_neg z7,if_pos z8])
    rw[z8] at y0
    clear HP z1 z5 z7
    go_wp2
    go_roundw
    case rel=>exact⟨k+1,by omega,by go_num,HP1.out _⟩
    case measure=>simp[intOf];omega
   by_cases z13:v.op=13
   ·have HP1:Hid _:=HP.out {v with op:=6} hv (by unfold whV;rw[if_neg z1,if_neg z5,if_neg z7,if_neg z8,if_pos z13])
    rw[z13] at y0
    clear HP z1 z5 z7 z8
    go_wp2
    go_roundw
    case rel=>exact⟨k+1,by omega,by go_num,HP1.out _⟩
    case measure=>simp[intOf];omega
   have HP1:Hid _:=HP.out v hv (by unfold whV;rw[if_neg z1,if_neg z5,if_neg z7,if_neg z8,if_neg z13])
   clear HP
   go_wp2
   go_roundw
   case rel=>exact⟨k+1,by omega,by go_num,HP1.out _⟩
   case measure=>simp[intOf];omega
  ·have e:k=n2:=by omega
   subst e
   have q0:=hA.out.bx.q0
   have q1:=hA.out.bx.q1
   have q2:=hA.out.bx.q2
   have r0:=hA.out.rs.q0
   have r1:=hA.out.rs.q1
   have r2:=hA.out.rs.q2
   have g0:=hA.out.rs.f0
   have g1:=hA.out.rs.f1
   have g2:=hA.out.rs.f2
   have HFin:Hid _:=hA.out.fin (.slice a1 n1 c1) (.slice a2 k c2) (.slice a3 n3 c3)
   go_wp2_with fail
   obtain⟨p0,p1,p2⟩:=iy _ (w.heap.size+1) _ _ _ r0 r1 r2 (.slice a1 n1 c1) (.slice a2 k c2) (.slice a3 n3 c3)
   exact bodyPost_ret (v:=ip a1 n1 c1 a2 k c2 a3 n3 c3) (by simp[results,Tryz.results18,go_sem,p0,p1,p2]) rfl ⟨rfl,HFin.out.1,HFin.out.2.1,HFin.out.2.2⟩
end
section
open Go.RowKit Flt
variable {u v:Vl} {us vs:List Vl} {ins outs:List Int} {st st':List Vl×List Int}
def okE (ins:List Int)(L:Nat->Int)(i:Nat)(v:Vl):Bool:=
 (iJ v.len&&jT v)&&(if v.op=0 then iL v.a ins.length&&v.len==ins.getD v.a.toNat 0 else (iV v).all (iL · i)&&im v.op v.len v.c ((iV v).map λo=>L o.toNat))
theorem zm (ins:List Int)(vs:List Vl)(i:Nat):okV ins vs i=okE ins (λj=>(vs.getD j Vl.zero).len) i (vs.getD i Vl.zero):=rfl
theorem Fo (ins:List Int)(L L':Nat->Int)(i:Nat)(v:Vl)(h:∀j,j<i->L j=L' j)(ok:okE ins L i v=true):okE ins L' i v=true:=by
 unfold okE at ok ⊢
 by_cases c:v.op=0
 ·rw[if_pos c] at ok ⊢
  exact ok
 ·rw[if_neg c] at ok ⊢
  simp only[Bool.and_eq_true] at ok ⊢
  refine⟨ok.1,ok.2.1,?_⟩
  rw[<-ok.2.2]
  congr 1
  refine List.map_congr_left λo ho=>?_
  have:=of_decide_eq_true (List.all_eq_true.1 ok.2.1 o ho)
  exact(h _ (by omega)).symm
theorem Ee (ins:List Int)(L:Nat->Int)(i j:Nat)(xs:List Int)(v:Vl)(ok:okE ins L i v=true):okE ins L i (whV xs j v)=true:=by
 obtain⟨op,len,a,b,c,k⟩:=v
 unfold whV
 by_cases h1:op=1
 ·rw[if_pos h1]
  exact ok
 rw[if_neg h1]
 by_cases h5:op=5
 ·subst h5
  rw[if_pos rfl]
  simpa[okE,jT,iV,cnt,lg,im] using ok
 rw[if_neg h5]
 by_cases h7:op=7
 ·subst h7
  rw[if_pos rfl]
  simpa[okE,jT,iV,cnt,lg,im] using ok
 rw[if_neg h7]
 by_cases h8:op=8
 ·subst h8
  rw[if_pos rfl]
  simp[okE,jT,iV,cnt,lg,im] at ok ⊢
  simp[ok]
 rw[if_neg h8]
 by_cases h13:op=13
 ·subst h13
  rw[if_pos rfl]
  simpa[okE,jT,iV,cnt,lg,im] using ok
 rw[if_neg h13]
 exact ok
theorem tw (xs:List Int)(i:Nat)(v:Vl):(whV xs i v).len=v.len:=by
 unfold whV
 repeat' split
 all_goals rfl
theorem BB {L:Nat->Int}{i:Nat}(k:Int)(h:okE ins L i v=true):okE (ins++[k]) L i v=true:=by
 unfold okE at h ⊢
 by_cases c:v.op=0
 ·rw[if_pos c] at h ⊢
  simp only[Bool.and_eq_true] at h ⊢
  obtain⟨h1,h2,h3⟩:=h
  unfold iL at h2 ⊢
  have h2':=of_decide_eq_true h2
  refine⟨h1,decide_eq_true ⟨h2'.1,by rw[List.length_append];simp only[List.length_singleton];omega⟩,?_⟩
  rw[List.getD_eq_getElem?_getD (l:=ins++[k]),List.getElem?_append_left (by omega),<-List.getD_eq_getElem?_getD]
  exact h3
 ·rw[if_neg c] at h ⊢
  exact h
theorem BC (ins:List Int)(L:Nat->Int)(i:Nat){k:Int}(hk:1<=k/\k<=1000):okE (ins++[k]) L i ⟨0,k,(ins.length:Int),0,0,0⟩=true:=by
 unfold okE
 rw[if_pos rfl]
 simp only[Bool.and_eq_true]
 refine⟨⟨decide_eq_true hk,by simp[jT,cnt,lg]⟩,?_,?_⟩
 ·exact decide_eq_true ⟨by omega,by rw[List.length_append];simp only[List.length_singleton];omega⟩
 ·rw[Int.toNat_natCast,List.getD_eq_getElem?_getD,List.getElem?_append_right (Nat.le_refl _),Nat.sub_self]
  simp
def duV (xs ins:List Int)(vs:List Vl)(x:Nat):List Vl:=whU xs vs vs.length++[⟨0,(vs.getD x Vl.zero).len,(ins.length:Int),0,0,0⟩]
def duO (s:Nat):List Int:=(List.range (s+1)).map (λi:Nat=>(i:Int))
theorem oT (xs:List Int)(vs:List Vl)(j:Nat)(hj:j<vs.length)(k:Nat):((whU xs vs k).getD j Vl.zero).len=(vs.getD j Vl.zero).len:=by
 rw[pT xs vs j hj k]
 split
 ·rw[tw]
 ·rfl
theorem nV (xs ins:List Int)(vs:List Vl)(x j:Nat)(hj:j<vs.length):(duV xs ins vs x).getD j Vl.zero=whV xs j (vs.getD j Vl.zero):=by
 unfold duV
 rw[List.getD_eq_getElem?_getD,List.getElem?_append_left (by rw[jp];exact hj),<-List.getD_eq_getElem?_getD,pT xs vs j hj,if_pos hj]
theorem nu (xs ins:List Int)(vs:List Vl)(x:Nat):(duV xs ins vs x).getD vs.length Vl.zero=⟨0,(vs.getD x Vl.zero).len,(ins.length:Int),0,0,0⟩:=by
 unfold duV
 rw[List.getD_eq_getElem?_getD,List.getElem?_append_right (by rw[jp];exact Nat.le_refl _),jp,Nat.sub_self]
 rfl
theorem jJ (xs ins:List Int)(vs:List Vl)(x:Nat):(duV xs ins vs x).length=vs.length+1:=by
 unfold duV
 rw[List.length_append,jp]
 rfl
theorem pU (s:Nat):(duO s).length=s+1:=by unfold duO;simp
theorem BD {xs:List Int}{s x:Nat}(h:okG ins vs outs=true)(hi:ins.length<20)(hv:vs.length<=60)(hc:ig vs<=600)(hs:s<vs.length)(hs5:s<50)(hx:x<vs.length):
  okG (ins++[(vs.getD x Vl.zero).len]) (duV xs ins vs x) (duO s)=true:=by
 unfold okG at h
 simp only[Bool.and_eq_true] at h
 obtain⟨_,h2,h3,_,_⟩:=h
 have hV:∀j,j<vs.length->okV ins vs j=true:=λj hj=>List.all_eq_true.1 h3 j (List.mem_range.2 hj)
 have hlen:=ja (hV x hx)
 unfold okG
 simp only[Bool.and_eq_true]
 refine⟨decide_eq_true ⟨by rw[List.length_append];simp only[List.length_singleton];omega,by rw[jJ];omega,by rw[pU];omega⟩,?_,?_,?_,?_⟩
 ·rw[List.all_append,h2]
  simp only[List.all_cons,List.all_nil,Bool.and_true,Bool.true_and]
  exact decide_eq_true hlen
 ·refine List.all_eq_true.2 λj hj=>?_
  rw[jJ,List.mem_range] at hj
  rw[zm]
  by_cases c:j<vs.length
  ·rw[nV xs ins vs x j c]
   refine Fo _ (λj=>(vs.getD j Vl.zero).len) _ _ _ (λq hq=>?_) (BB _ (Ee _ _ _ _ _ _ (hV j c)))
   show _=((duV xs ins vs x).getD q Vl.zero).len
   rw[nV xs ins vs x q (by omega),tw]
  ·have e:j=vs.length:=by omega
   subst e
   rw[nu]
   exact BC _ _ _ hlen
 ·refine List.all_eq_true.2 λo ho=>?_
  unfold duO at ho
  obtain⟨q,hq,rfl⟩:=List.mem_map.1 ho
  have:=List.mem_range.1 hq
  refine decide_eq_true ⟨by omega,?_⟩
  rw[jJ]
  omega
 ·refine decide_eq_true ?_
  unfold duV
  rw[n4,nM (whU xs vs vs.length) vs (jp _ _ _) (λj hj=>oT _ _ _ (by rw[jp] at hj;exact hj) _)]
  show ig vs+(vs.getD x Vl.zero).len<=50000
  omega
theorem nw (h:us.map sv=vs.map sv)(j:Nat):sv (us.getD j Vl.zero)=sv (vs.getD j Vl.zero):=by
 have:=congrArg (λl=>(l[j]?).getD (sv Vl.zero)) h
 simpa[List.getD_eq_getElem?_getD,List.getElem?_map,Option.getD_map] using this
theorem qK (h:us.map sv=vs.map sv):okG ins us outs=okG ins vs outs:=by
 have hl:us.length=vs.length:=by simpa using congrArg List.length h
 have hn:∀j,(us.getD j Vl.zero).len=(vs.getD j Vl.zero).len:=λj=>by
  have:=congrArg Vl.len (nw h j)
  exact this
 have hV:okV ins us=okV ins vs:=by
  funext j
  rw[zm,zm,show(λj=>(us.getD j Vl.zero).len)=λj=>(vs.getD j Vl.zero).len from funext hn]
  have:=nw h j
  generalize us.getD j Vl.zero=a at this
  generalize vs.getD j Vl.zero=b at this
  obtain⟨op,len,p,q,r,k⟩:=a
  obtain⟨op',len',p',q',r',k'⟩:=b
  unfold sv at this
  cases this
  rfl
 unfold okG
 rw[hl,hV,nM us vs hl λj _=>hn j]
def nk (v:Vl):Vl:=if v.op=1 then v else sv v
theorem Ef (op len c:Int)(k k':Nat)(x y z:List Nat)(h:op≠1):lB op len c k x y z=lB op len c k' x y z:=by
 have e:iF op c k x y z=iF op c k' x y z:=by
  funext j
  unfold iF
  simp[h]
 unfold lB
 rw[e]
theorem zr (xss:List (List Nat))(v:Vl)(Vs:List (List Nat)):one xss (nk v) Vs=one xss v Vs:=by
 unfold nk
 by_cases h:v.op=1
 ·rw[if_pos h]
 ·rw[if_neg h]
  unfold one sv
  by_cases h0:v.op=0
  ·simp[h0]
  ·rw[if_neg h0]
   first|rw[if_neg h0]|skip
   exact Ef _ _ _ _ _ _ _ _ h
theorem lD (h:us.map nk=vs.map nk)(j:Nat):nk (us.getD j Vl.zero)=nk (vs.getD j Vl.zero):=by
 have:=congrArg (λl=>(l[j]?).getD (nk Vl.zero)) h
 simpa[List.getD_eq_getElem?_getD,List.getElem?_map,Option.getD_map] using this
theorem rR (xss:List (List Nat)){us vs:List Vl}(h:us.map nk=vs.map nk):∀i,io xss us i=io xss vs i
 |0=>rfl
 |i+1=>by
  rw[io,io,rR xss h i,<-zr xss (us.getD i Vl.zero),lD h i,zr]
theorem Fp (xs:List Int)(j:Nat)(h:sv u=sv v):nk (whV xs j u)=nk (whV xs j v):=by
 obtain⟨op,len,a,b,c,k⟩:=u
 obtain⟨op',len',a',b',c',k'⟩:=v
 unfold sv at h
 cases h
 unfold whV
 by_cases h1:op=1
 ·rw[if_pos h1,if_pos h1]
 rw[if_neg h1,if_neg h1]
 repeat' split
 all_goals simp_all [nk,sv]
theorem Fq (xs ins:List Int)(x:Nat)(h:us.map sv=vs.map sv):(duV xs ins us x).map nk=(duV xs ins vs x).map nk:=by
 have hl:us.length=vs.length:=by simpa using congrArg List.length h
 refine List.ext_getElem? λj=>?_
 rw[List.getElem?_map,List.getElem?_map]
 by_cases c:j<us.length
 ·have e1:=nV xs ins us x j c
  have e2:=nV xs ins vs x j (by omega)
  have l1:j<(duV xs ins us x).length:=by rw[jJ];omega
  have l2:j<(duV xs ins vs x).length:=by rw[jJ];omega
  rw[List.getD_eq_getElem?_getD,List.getElem?_eq_getElem l1] at e1
  rw[List.getD_eq_getElem?_getD,List.getElem?_eq_getElem l2] at e2
  rw[List.getElem?_eq_getElem l1,List.getElem?_eq_getElem l2]
  simp only[Option.getD_some] at e1 e2
  rw[e1,e2]
  simp only[Option.map_some]
  rw[Fp xs j (nw h j)]
 ·unfold duV
  rw[List.getElem?_append_right (by rw[jp];omega),List.getElem?_append_right (by rw[jp];omega),jp,jp,hl]
  have:=congrArg Vl.len (nw h x)
  have e:(us.getD x Vl.zero).len=(vs.getD x Vl.zero).len:=this
  rw[e]
theorem nx (h:nk u=nk v):sv u=sv v:=by
 have e:∀v:Vl,sv (nk v)=sv v:=λv=>by unfold nk;split<;>rfl
 rw[<-e u,<-e v,h]
theorem Eg (h:sv u=sv v)(i:Int)(ta tb tc:Int)(N:Nat):mvM i u ta tb tc N=mvM i v ta tb tc N:=by
 obtain⟨op,len,a,b,c,k⟩:=u
 obtain⟨op',len',a',b',c',k'⟩:=v
 unfold sv at h
 cases h
 rfl
theorem vz (h:sv u=sv v)(mv:List Int)(q j:Nat):ovs u mv q j=ovs v mv q j:=by
 obtain⟨op,len,a,b,c,k⟩:=u
 obtain⟨op',len',a',b',c',k'⟩:=v
 unfold sv at h
 cases h
 rfl
theorem Ce (h:sv u=sv v):u.op=v.op:=by
 have:=congrArg Vl.op h
 exact this
theorem oj (h:sv u=sv v):u.len=v.len:=by
 have:=congrArg Vl.len h
 exact this
theorem Eh (h:us.map nk=vs.map nk)(i:Nat)(h1:st.1.length=st'.1.length)(h2:st.2=st'.2):jmv us i st=jmv vs i st':=by
 have e:=nx (lD h i)
 unfold jmv
 rw[h1,h2,Ce e,vz e,vz e,vz e,Eg e]
theorem zt {us vs:List Vl}(h:us.map nk=vs.map nk)(x t:Nat):∀k,∃r,(jst us x t k).1=us++r/\(jst vs x t k).1=vs++r/\(jst us x t k).2=(jst vs x t k).2
 |0=>⟨[],by simp[jst],by simp[jst],by
  have hl:us.length=vs.length:=by simpa using congrArg List.length h
  show(List.replicate us.length (-1)).set x (t:Int)=_
  rw[hl];rfl⟩
 |k+1=>by
  have hl:us.length=vs.length:=by simpa using congrArg List.length h
  obtain⟨r,h1,h2,h3⟩:=zt h x t k
  have e:=Eh h (x+1+k) (st:=jst us x t k) (st':=jst vs x t k) (by rw[h1,h2,List.length_append,List.length_append,hl]) h3
  refine⟨r++(jmv vs (x+1+k) (jst vs x t k)).1,?_,?_,?_⟩
  ·rw[jst,e,h1,List.append_assoc]
  ·rw[jst,h2,List.append_assoc]
  ·rw[jst,jst,e,h3]
theorem BE (h:us.map nk=vs.map nk)(s x t:Nat):(jf us s x t).1.map nk=(jf vs s x t).1.map nk/\(jf us s x t).2=(jf vs s x t).2:=by
 have hl:us.length=vs.length:=by simpa using congrArg List.length h
 obtain⟨r,h1,h2,h3⟩:=zt h x t (s-x)
 have e:=oj (nx (lD h s))
 unfold jf
 rw[h1,h2,h3,e]
 split
 ·refine⟨by simp only[List.map_append,h],?_⟩
  simp only[List.length_append,hl]
 ·exact⟨by simp only[List.map_append,h],rfl⟩
def Eqk (st st':List Vl×List Int):Prop:=st.1.map nk=st'.1.map nk/\st.2=st'.2
theorem Eqk.len (h:Eqk st st'):st.1.length=st'.1.length:=by simpa using congrArg List.length h.1
theorem Eqk.app (h:Eqk st st')(r:List Vl)(m:List Int):Eqk (st.1++r,m) (st'.1++r,m):=⟨by simp only[List.map_append,h.1],rfl⟩
theorem BF (h:us.map nk=vs.map nk)(o:Nat)(p:Int)(e:Eqk st st'):Eqk (jF us o p st) (jF vs o p st'):=by
 unfold jF
 rw[e.2,e.len,oj (nx (lD h o))]
 split
 ·exact⟨e.1,rfl⟩
 ·exact e.app _ _
theorem Ei (h:sv u=sv v)(k:Nat):fld u k=fld v k:=by
 obtain⟨op,len,a,b,c,k⟩:=u
 obtain⟨op',len',a',b',c',k'⟩:=v
 unfold sv at h
 cases h
 rfl
theorem BG (h:sv u=sv v)(k:Nat):ku u k=ku v k:=by
 obtain⟨op,len,a,b,c,k⟩:=u
 obtain⟨op',len',a',b',c',k'⟩:=v
 unfold sv at h
 cases h
 rfl
theorem BH (h:sv u=sv v)(i la:Int)(k:Nat)(d:Int)(N:Nat):iW i u la k d N=iW i v la k d N:=by
 obtain⟨op,len,a,b,c,k⟩:=u
 obtain⟨op',len',a',b',c',k'⟩:=v
 unfold sv at h
 cases h
 rfl
theorem xr (h:sv u=sv v)(act:List Bool):lW act u=lW act v:=by
 obtain⟨op,len,a,b,c,k⟩:=u
 obtain⟨op',len',a',b',c',k'⟩:=v
 unfold sv at h
 cases h
 rfl
theorem Fr (h:us.map nk=vs.map nk)(i:Nat):laM us i=laM vs i:=by
 have e:=congrArg Vl.a (nx (lD h i))
 have e':(us.getD i Vl.zero).a=(vs.getD i Vl.zero).a:=e
 unfold laM
 rw[e',oj (nx (lD h _))]
theorem Fs (h:us.map nk=vs.map nk)(act:List Bool)(i k:Nat)(e:Eqk st st'):Eqk (gkM us act i k st) (gkM vs act i k st'):=by
 have s:=nx (lD h i)
 unfold gkM
 rw[Ei s,BG s,Fr h,BH s,e.2,e.len]
 split
 ·exact BF h _ _ (e.app _ _)
 ·exact⟨e.1,e.2⟩
theorem wg {us vs:List Vl}(h:us.map nk=vs.map nk)(act:List Bool)(i:Nat){st st':List Vl×List Int}(e:Eqk st st'):∀k,Eqk (jl us act i st k) (jl vs act i st' k)
 |0=>e
 |k+1=>Fs h act i k (wg h act i e k)
theorem Ft (h:us.map nk=vs.map nk)(act:List Bool)(i:Nat)(e:Eqk st st'):Eqk (giM us act i st) (giM vs act i st'):=by
 unfold giM
 rw[Ce (nx (lD h i)),e.2]
 split
 ·exact⟨e.1,e.2⟩
 ·exact wg h act i e _
theorem uC {us vs:List Vl}(h:us.map nk=vs.map nk)(act:List Bool)(x:Nat):∀(js:List Nat) {st st':List Vl×List Int},Eqk st st'->Eqk (km us act x st js) (km vs act x st' js)
 |[],_,_,e=>e
 |j::js,_,_,e=>uC h act x js (Ft h act (x+1+j) e)
theorem zu {us vs:List Vl}(h:us.map nk=vs.map nk)(x:Nat):∀m,iS us x m=iS vs x m
 |0=>by
  have hl:us.length=vs.length:=by simpa using congrArg List.length h
  rw[iS,iS,hl]
 |m+1=>by rw[iS,iS,zu h x m,xr (nx (lD h _))]
theorem Ej (h:us.map nk=vs.map nk)(s x:Nat):(grM us s x).1.map nk=(grM vs s x).1.map nk/\(grM us s x).2=(grM vs s x).2:=by
 have hl:us.length=vs.length:=by simpa using congrArg List.length h
 have e0:Eqk (ky us s) (ky vs s):=⟨by unfold ky;simp only[List.map_append,h],by unfold ky;simp only[hl]⟩
 have e:=uC h (iS vs x (s-x)) x (lY (s-x)) e0
 have el:=oj (nx (lD h x))
 unfold grM
 rw[zu h,el,hl]
 split
 ·unfold qp
  rw[e.2,e.len,el]
  split
  ·exact⟨by simp only[List.map_append,e.1],rfl⟩
  ·exact⟨e.1,rfl⟩
 ·exact⟨by simp only[List.map_append,h],rfl⟩
end
section
open Go.RowKit Flt Ieee
variable {op n p q r:Int} {vs:List Vl} {st:List Vl×List Int}
def whK (v:Vl):Prop:=whO v.op/\(v.op=1->∃z,FZ v.k z)
theorem me (h:whO op):whK (ik op n p q r):=⟨h,λ_=>⟨0,lk 0 (by decide)⟩⟩
def AllW (vs:List Vl):Prop:=∀v∈vs,whK v
theorem AllW.nil:AllW []:=λ_ h=>by cases h
theorem AllW.app {a b:List Vl}(h:AllW a)(h':AllW b):AllW (a++b):=λv hv=>(List.mem_append.1 hv).elim (h v) (h' v)
theorem AllW.cons {v:Vl}{r:List Vl}(h:whK v)(h':AllW r):AllW (v::r):=λu hu=>by
 rcases List.mem_cons.1 hu with e|e
 ·rw[e];exact h
 ·exact h' u e
theorem AllW.get (h:AllW vs)(i:Nat):whK (vs.getD i Vl.zero):=by
 rw[List.getD_eq_getElem?_getD]
 cases c:vs[i]? with
 |none=>exact⟨.inl rfl,λe=>by cases e⟩
 |some v=>exact h v (List.mem_of_getElem? c)
theorem nz (h:op=1\/op=2\/op=3\/op=4\/op=6\/op=9\/op=10\/op=11\/op=12):whO op:=by unfold whO;omega
theorem zv:whK (ik 1 n p q r):=me (nz (by omega))
theorem Fu:whK (ik 2 n p q r):=me (nz (by omega))
theorem Ek (i:Int)(v:Vl)(ta tb tc:Int)(N:Nat)(h:whO v.op):AllW (mvM i v ta tb tc N).1:=by
 have hw:=h
 unfold whO at h
 unfold mvM mb oG nX
 repeat' split
 all_goals first
  |(exfalso;omega)
  |exact AllW.nil
  |exact AllW.cons (me hw) AllW.nil
  |exact AllW.cons (me (nz (by omega))) AllW.nil
  |exact AllW.cons (me (nz (by omega))) (AllW.cons (me (nz (by omega))) (AllW.cons (me (nz (by omega))) AllW.nil))
theorem vA {vs:List Vl}(h:AllW vs)(x t:Nat):∀k,AllW (jst vs x t k).1
 |0=>h
 |k+1=>(vA h x t k).app (Ek _ _ _ _ _ _ (h.get _).1)
theorem BI (h:AllW vs)(s x t:Nat):AllW (jf vs s x t).1:=by
 unfold jf
 split
 ·exact(vA h x t _).app (.cons zv .nil)
 ·exact vA h x t _
theorem BJ (i:Int)(v:Vl)(la:Int)(k:Nat)(d:Int)(N:Nat)(h:whO v.op):AllW (iW i v la k d N).1:=by
 unfold whO at h
 unfold iW
 by_cases k0:k=0
 all_goals
  rcases h with c|c|c|c|c|c|c|c|c|c
  all_goals
   simp only[c,k0,Int.reduceEq,if_true,if_false]
   first
    |exact AllW.nil
    |(refine AllW.cons (me ?_) AllW.nil;exact nz (by omega))
theorem BL {o:Nat}(h:AllW st.1):AllW (jF vs o p st).1:=by
 unfold jF
 split
 ·exact h
 ·exact h.app (.cons Fu .nil)
theorem Fv (hv:AllW vs)(act:List Bool)(i k:Nat)(h:AllW st.1):AllW (gkM vs act i k st).1:=by
 unfold gkM
 split
 ·exact BL (h.app (BJ _ _ _ _ _ _ (hv.get _).1))
 ·exact h
theorem wi {vs:List Vl}(hv:AllW vs)(act:List Bool)(i:Nat){st:List Vl×List Int}(h:AllW st.1):∀k,AllW (jl vs act i st k).1
 |0=>h
 |k+1=>Fv hv act i k (wi hv act i h k)
theorem Fw (hv:AllW vs)(act:List Bool)(i:Nat)(h:AllW st.1):AllW (giM vs act i st).1:=by
 unfold giM
 split
 ·exact h
 ·exact wi hv act i h _
theorem uD {vs:List Vl}(hv:AllW vs)(act:List Bool)(x:Nat):∀(js:List Nat) {st:List Vl×List Int},AllW st.1->AllW (km vs act x st js).1
 |[],_,h=>h
 |j::js,_,h=>uD hv act x js (Fw hv act (x+1+j) h)
theorem wj:FZ 4607182418800017408 1:=lk 1 (by decide)
theorem El (h:AllW vs)(s x:Nat):AllW (grM vs s x).1:=by
 have h0:AllW (ky vs s).1:=h.app (.cons ⟨nz (by decide),λ_=>⟨1,wj⟩⟩ .nil)
 have h1:=uD h (iS vs x (s-x)) x (lY (s-x)) h0
 unfold grM
 split
 ·unfold qp
  split
  ·exact h1.app (.cons zv .nil)
  ·exact h1
 ·exact h.app (.cons zv .nil)
theorem rS (vs:List Vl)(act:List Bool)(x:Nat):∀(js:List Nat) (st:List Vl×List Int),∃r,(km vs act x st js).1=st.1++r
 |[],st=>⟨[],by simp[km]⟩
 |j::js,st=>by
  obtain⟨r,e⟩:=rS vs act x js (giM vs act (x+1+j) st)
  obtain⟨r',e'⟩:=vV vs act (x+1+j) st
  exact⟨r'++r,by show(km vs act x (giM vs act (x+1+j) st) js).1=_;rw[e,e',List.append_assoc]⟩
theorem BM (vs:List Vl)(s x:Nat):∃r,(grM vs s x).1=vs++r:=by
 obtain⟨r,e⟩:=rS vs (iS vs x (s-x)) x (lY (s-x)) (ky vs s)
 unfold grM
 split
 ·unfold qp
  split
  ·exact⟨_,by rw[e];unfold ky;rw[List.append_assoc,List.append_assoc]⟩
  ·exact⟨_,by rw[e];unfold ky;rw[List.append_assoc]⟩
 ·exact⟨_,rfl⟩
theorem zw (vs:List Vl)(s x t:Nat):∃r,(jf vs s x t).1=vs++r:=by
 obtain⟨r,e⟩:=nO vs x t (s-x)
 unfold jf
 split
 ·exact⟨r++[_],by rw[e,List.append_assoc]⟩
 ·exact⟨r,e⟩
theorem qL (xss:List (List Nat))(us r:List Vl):∀i,i<=us.length->io xss (us++r) i=io xss us i
 |0,_=>rfl
 |i+1,h=>by
  have e:(us++r).getD i Vl.zero=us.getD i Vl.zero:=sV (by omega)
  rw[io,io,qL xss us r i (by omega),e]
theorem zx (xss:List (List Nat))(us r:List Vl){j:Nat}(h:j<us.length):(io xss (us++r) (us++r).length).getD j []=(io xss us us.length).getD j []:=by
 rw[List.length_append,mA _ _ _ h,qL xss us r _ (Nat.le_refl _)]
theorem zy (xss:List (List Nat))(us r:List Vl){j:Nat}(h:j<us.length)(k:Nat):zV xss (us++r) j k=zV xss us j k:=by
 unfold zV
 rw[zx xss us r h]
theorem Em (ys:List Int)(j:Nat)(hy:∀i,kr ys i<256){v:Vl}(h:0<=v.op/\v.op<=13):whK (whV ys j v):=by
 obtain⟨op,len,a,b,c,k⟩:=v
 have h':0<=op/\op<=13:=h
 have hj:=hy j
 unfold whV
 by_cases c1:op=1
 ·subst c1
  exact⟨.inr (.inl rfl),λ_=>⟨_,lk _ (by omega)⟩⟩
 rw[if_neg c1]
 by_cases c5:op=5
 ·subst c5
  exact⟨by unfold whO;simp,λe=>absurd e (by simp)⟩
 rw[if_neg c5]
 by_cases c7:op=7
 ·subst c7
  exact⟨by unfold whO;simp,λe=>absurd e (by simp)⟩
 rw[if_neg c7]
 by_cases c8:op=8
 ·subst c8
  exact⟨by unfold whO;simp,λe=>absurd e (by simp)⟩
 rw[if_neg c8]
 by_cases c13:op=13
 ·subst c13
  exact⟨by unfold whO;simp,λe=>absurd e (by simp)⟩
 rw[if_neg c13]
 exact⟨by show whO op;unfold whO;omega,λe=>absurd e c1⟩
theorem Fx {ys ins:List Int}(hy:∀i,kr ys i<256)(hV:∀j,j<vs.length->okV ins vs j=true)(x:Nat):AllW (duV ys ins vs x):=λv hv=>by
 obtain⟨j,hj,e⟩:=List.getElem_of_mem hv
 have e2:(duV ys ins vs x).getD j Vl.zero=v:=by rw[List.getD_eq_getElem?_getD,List.getElem?_eq_getElem hj,e];rfl
 rw[jJ] at hj
 by_cases c:j<vs.length
 ·rw[nV ys ins vs x j c] at e2
  rw[<-e2]
  exact Em ys j hy (sZ (hV j c))
 ·have:j=vs.length:=by omega
  subst this
  rw[nu] at e2
  rw[<-e2]
  exact⟨.inl rfl,λc=>by cases c⟩
end
section
open Go.RowKit Flt
attribute [local go_sem] ic ib ia
variable {w:World}
theorem DG.gs {B:Nat}{a1 a2 a3:Option Addr}{n1 c1 n2 c2 n3 c3:Nat}{ins:List Int}{vs:List Vl}{outs:List Int}(f:DG w B (.slice a1 n1 c1) (.slice a2 n2 c2) (.slice a3 n3 c3) ins vs outs)(h1:ins.length=n1)(h2:vs.length=n2)(h3:outs.length=n3):GS w a1 n1 a2 n2 a3 n3 ins vs outs:=by
 subst h1 h2 h3
 exact⟨sI f.r1 rfl,CB f.r2 rfl f.k,sI f.r3 rfl⟩
theorem qM (vs:List Vl):(vs.map sv).map sv=vs.map sv:=by
 rw[List.map_map]
 rfl
theorem nW (vs:List Vl):ig (vs.map sv)=ig vs:=by
 induction vs with
 |nil=>rfl
 |cons v r ih=>rw[List.map_cons,ig,ig,ih];rfl
def ty (T:List Int×List Vl×List Int×Nat):Prop:=okG T.1 T.2.1 T.2.2.1=true/\T.2.1.length<=60/\0<T.2.1.length/\T.1.length<20/\ig T.2.1<=600
def DuN (w:World)(s x:Int)(e:Ending)(w':World):Prop:=∃a1 n1 c1 a2 n2 c2 a3 n3 c3,e=.returned (.tuple #[ip a1 n1 c1 a2 n2 c2 a3 n3 c3,.int .i64 s,.int .i64 x,.bool false])/\Kept 0 0 w w'
theorem kB {W:World}{R:Nat}(k:Kept 0 0 w W)(hR:w.heap.size<=R)(x y z:Value):Kept 0 0 w (((W.setCell ⟨R,0,none⟩ x).setCell ⟨R,1,none⟩ y).setCell ⟨R,2,none⟩ z):=by
 have C:∀(W:World) (o:Nat) (x:Value),Chg (λb=>b=R) W (W.setCell ⟨R,o,none⟩ x):=λW o x=>iH W R o x rfl
 exact Chg.kept k (((C W 0 x).andThen (C _ 1 y)).andThen (C _ 2 z)) λi e=>by omega
theorem lL {W:World}{B e s n m:Nat}{u:Value}{xs:List Value}(h:W.ownsRow B e s u m xs)(hn:n=m):n<=9223372036854775807:=by
 subst hn
 rcases h.2 with⟨_,c⟩|⟨g,cap,cur,_,_,_,b3,b4,_⟩
 ·omega
 ·unfold maxLen at b4;omega
theorem zB {a am:Option Addr}{n cap nm cm:Nat}{xs:List Int}(h:YS w a n xs)(hc:n<=cap)(hf:¬ty (gdT (xs.take 500))):
  Calls Tryz.prog 4 #[.slice a n cap,.slice am nm cm] w (DuN w (gdS (xs.take 500)) (gdX (xs.take 500))):=by
 have ka:=hU 0 0 w iw
 have h1:(w.alloc iw).heap.size=w.heap.size+1:=by simp
 have HD:Hid _:=qJ (h.keep ka) hc
 have HB:Hid _:=i9 w
 have HK:Hid _:=ka
 have HF:Hid _:=hf
 generalize gdT (xs.take 500)=T at HD HF
 generalize gdS (xs.take 500)=s at HD ⊢
 generalize gdX (xs.take 500)=x at HD ⊢
 obtain⟨ins,vs0,outs,N0⟩:=T
 clear h hc ka hf
 go_enter Tryz.func4,Tryz.ntmps4
 go_wp2_with fail
 refine Calls.mono HD.out ?_
 rintro e W1 ⟨a1,c1,a2,c2,a3,c3,vs,rfl,hsv,d,k1⟩
 have hsv:vs.map sv=vs0:=hsv
 have hl:vs.length=vs0.length:=by rw[<-hsv,List.length_map]
 have hok:okG ins vs outs=okG ins vs0 outs:=qK (by rw[<-hsv,qM])
 have hce:ig vs=ig vs0:=by rw[<-hsv,nW]
 have hN:Hid (¬(okG ins vs outs=true/\vs.length<=60/\0<vs.length/\ins.length<20/\ig vs<=600)):=by
  show ¬_
  rw[hok,hl,hce]
  exact HF.out
 clear HF hl hok hce hsv HD
 simp only at d hN
 have hi:ins.length<=9223372036854775807/\vs.length<=9223372036854775807:=⟨lL d.r1 rfl,lL d.r2 rfl⟩
 generalize hn1:ins.length=n1 at d hN hi ⊢
 generalize hn2:vs.length=n2 at d hN hi ⊢
 generalize hn3:outs.length=n3 at d ⊢
 have ko:=hU 0 0 W1 (iv a1 n1 c1 a2 n2 c2 a3 n3 c3)
 have hb:=kj (S:=λ_=>False) W1 _ #[.slice a1 n1 c1,.slice a2 n2 c2,.slice a3 n3 c3] 26 (Kept.refl 0 0 _).chg (λc=>c)
 have HBx:Hid (RB (W1.alloc (iv a1 n1 c1 a2 n2 c2 a3 n3 c3)) W1.heap.size (.slice a1 n1 c1) (.slice a2 n2 c2) (.slice a3 n3 c3)):=⟨hb.2.2,hb.1 0,hb.1 1,hb.1 2,hb.2.1 0,hb.2.1 1,hb.2.1 2⟩
 have HKK:Hid (Kept 0 0 w (W1.alloc (iv a1 n1 c1 a2 n2 c2 a3 n3 c3))):=HK.out.trans (k1.trans ko)
 have HBr:Hid _:=HB.out.keep (k1.trans ko)
 have HDG:Hid _:=d.kept ko (Nat.zero_le _)
 have HV:Hid _:=kN _ a1 a2 a3 n1 c1 n2 c2 n3 c3 ins vs outs (HDG.out.gs hn1 hn2 hn3)
 have hlt:w.heap.size<W1.heap.size:=by have:=k1.size;omega
 clear hb ko k1 d HK HB h1
 go_wp2_with fail
 generalize W1.alloc (iv a1 n1 c1 a2 n2 c2 a3 n3 c3)=W2 at HBx HKK HBr HDG HV ⊢
 generalize W1.heap.size=Q at HBx hlt ⊢
 refine Calls.mono HV.out ?_
 rintro e W3 ⟨rfl,k3⟩
 have HBx3:Hid _:=HBx.out.keep k3
 have HBr3:Hid _:=HBr.out.keep k3
 have HDG3:Hid _:=HDG.out.kept k3 (Nat.zero_le _)
 have HK3:Hid _:=HKK.out.trans k3
 clear k3 HBx HBr HDG HKK HV
 obtain⟨_,q0,q1,q2,_,_,_⟩:=HBx3.out
 obtain⟨hr,r0,r1,r2,rf0,rf1,rf2⟩:=HBr3.out
 have hQ2:¬w.heap.size=Q:=by omega
 have hQ3:¬Q=w.heap.size:=by omega
 have HKx:Hid _:=HK3.out
 cases ho:okG ins vs outs
 ·clear hN
  go_wp2_with fail
  obtain⟨p0,p1,p2⟩:=iy _ w.heap.size _ _ _ r0 r1 r2 (.slice a1 n1 c1) (.slice a2 n2 c2) (.slice a3 n3 c3)
  exact bodyPost_ret (v:=.tuple #[ip a1 n1 c1 a2 n2 c2 a3 n3 c3,.int .i64 s,.int .i64 x,.bool false]) (by simp[results,Tryz.results4,go_sem,p0,p1,p2]) rfl ⟨_,_,_,_,_,_,_,_,_,rfl,kB HKx.out (Nat.le_refl _) _ _ _⟩
 have hN':¬(n2<=60/\0<n2/\n1<20/\ig vs<=600):=λc=>hN.out ⟨ho,c⟩
 obtain⟨hi1,hi2⟩:=hi
 by_cases c60:60<n2
 ·clear hN hN' ho
  go_wp2_with fail
  obtain⟨p0,p1,p2⟩:=iy _ w.heap.size _ _ _ r0 r1 r2 (.slice a1 n1 c1) (.slice a2 n2 c2) (.slice a3 n3 c3)
  exact bodyPost_ret (v:=.tuple #[ip a1 n1 c1 a2 n2 c2 a3 n3 c3,.int .i64 s,.int .i64 x,.bool false]) (by simp[results,Tryz.results4,go_sem,p0,p1,p2]) rfl ⟨_,_,_,_,_,_,_,_,_,rfl,kB HKx.out (Nat.le_refl _) _ _ _⟩
 by_cases c0:n2=0
 ·subst c0
  clear hN hN' ho
  go_wp2_with fail
  obtain⟨p0,p1,p2⟩:=iy _ w.heap.size _ _ _ r0 r1 r2 (.slice a1 n1 c1) (.slice a2 0 c2) (.slice a3 n3 c3)
  exact bodyPost_ret (v:=.tuple #[ip a1 n1 c1 a2 0 c2 a3 n3 c3,.int .i64 s,.int .i64 x,.bool false]) (by simp[results,Tryz.results4,go_sem,p0,p1,p2]) rfl ⟨_,_,_,_,_,_,_,_,_,rfl,kB HKx.out (Nat.le_refl _) _ _ _⟩
 by_cases c20:20<=n1
 ·clear hN hN' ho
  go_wp2_with fail
  obtain⟨p0,p1,p2⟩:=iy _ w.heap.size _ _ _ r0 r1 r2 (.slice a1 n1 c1) (.slice a2 n2 c2) (.slice a3 n3 c3)
  exact bodyPost_ret (v:=.tuple #[ip a1 n1 c1 a2 n2 c2 a3 n3 c3,.int .i64 s,.int .i64 x,.bool false]) (by simp[results,Tryz.results4,go_sem,p0,p1,p2]) rfl ⟨_,_,_,_,_,_,_,_,_,rfl,kB HKx.out (Nat.le_refl _) _ _ _⟩
 ·have hcl:600<ig vs:=by omega
  have hV:∀j,j<n2->okV ins vs j=true:=λj hj=>by
   unfold okG at ho
   simp only[Bool.and_eq_true] at ho
   exact List.all_eq_true.1 ho.2.2.1 j (List.mem_range.2 (by rw[hn2];exact hj))
  have r2':=HDG3.out.r2
  rw[hn2] at r2'
  have HL:Hid _:=lS (a1:=a1) (n1:=n1) (c1:=c1) (a3:=a3) (n3:=n3) (c3:=c3) r2' hn2 (by omega) λj hj=>ja (hV j hj)
  clear hN hN' ho hV r2' HKx
  generalize ig vs=z at hcl HL
  go_wp2_with fail
  refine Calls.mono HL.out ?_
  rintro e W4 ⟨rfl,k4⟩
  have HKx:Hid _:=HK3.out.trans k4
  obtain⟨_,q0,q1,q2,_,_,_⟩:=HBx3.out.keep k4
  obtain⟨hr,r0,r1,r2,rf0,rf1,rf2⟩:=HBr3.out.keep k4
  clear k4
  go_wp2_with fail
  obtain⟨p0,p1,p2⟩:=iy _ w.heap.size _ _ _ r0 r1 r2 (.slice a1 n1 c1) (.slice a2 n2 c2) (.slice a3 n3 c3)
  exact bodyPost_ret (v:=.tuple #[ip a1 n1 c1 a2 n2 c2 a3 n3 c3,.int .i64 s,.int .i64 x,.bool false]) (by simp[results,Tryz.results4,go_sem,p0,p1,p2]) rfl ⟨_,_,_,_,_,_,_,_,_,rfl,kB HKx.out (Nat.le_refl _) _ _ _⟩
end
end Go.Proofs.YtnlffngpnoodkaaGreat
