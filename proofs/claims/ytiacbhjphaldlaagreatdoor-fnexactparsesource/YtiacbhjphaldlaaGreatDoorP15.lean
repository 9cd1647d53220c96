import Derived.Test.YtiacbhjphaldlaaGreatDoorP14
namespace Go.Proofs.Z
open Tryz
set_option maxRecDepth 1000000
set_option maxHeartbeats 0
section
open Go.RowKit Go.Shelf
attribute[local go_sem] Oper.semAt_some
theorem xg{F}(n)(bL:F.fn 193)(p:F.round=none){a b cap w}:
  CallsIn F n prog 193 #[.slice a b cap] w λe D=>e=.returned (.func (.func 206) #[] #[ge w.heap.size])/\D=w.alloc (.cells #[.slice a b cap] 267):=by
 refine callsIn_of_wp func193 rfl bL ?_ p;simp only[ntmps193,List.size_toArray,yap,List.length_nil,Nat.reduceAdd,Nat.reduceSub,Array.replicate_succ,Array.replicate_zero,List.push_toArray,List.append_toArray,List.nil_append,List.cons_append];gi_wp2
 go_ret;exact⟨rfl,rfl⟩
structure BkI(W:World)(Bs g m cap:Nat)(a:Option Addr)(rs:List Value):Prop where
 box:W.cell? ⟨Bs,0,none⟩=some (.slice a m cap)
 at_:∀j,j<m->a=some ⟨g,0,none⟩/\∃N bs,rs[j]?.getD .nilFunc=.func (.func N) #[] bs/\W.cell? ⟨g,j,none⟩=some (.func (.func N) #[] bs)
theorem Ow(F n)(S:F.fn 206)(p:F.round=none)(V:1<=n)(l t g m cap a rs)(aR:m<=100000)(b:World->World->Prop)(h:∀aH B,b aH B->BkI aH t g m cap a rs->BkI B t g m cap a rs)(ab c:List (Fin m)->World->Prop)
  (f:∀L x W,ab L W->L.length<m->YieldAt F (n-1) prog l #[h0 x.1,rs[x.1]?.getD .nilFunc] W λe A=>
   (e=.returned (.bool true)/\ab (L++[x]) A/\b W A)\/(e=.returned (.bool false)/\c (L++[x]) A))
  (W) (ax:BkI W t g m cap a rs) (aC:ab [] W):
  CallsIn F n prog 206 #[.func (.yield l) #[] #[],ge t] W λe A=>(∃v,e=.returned v)/\
   ((∃ys:List (Fin m),ys.map Fin.val=(List.range m).map (λi=>m-1-i)/\ab ys A)\/(∃L:List (Fin m),True/\c L A)):=by
 have U:=ax.box;have bN:IntKind.i64.wrap (m-1)=m-1:=by rw[IntKind.wrap_i64];omega
 refine callsIn_of_wp func206 rfl S ?_ p;simp only[ntmps206,List.size_toArray,yap,List.length_nil,Nat.reduceAdd,Nat.reduceSub,Array.replicate_succ,Array.replicate_zero,List.push_toArray,List.append_toArray,List.nil_append,List.cons_append];gi_wp2
 gi_loopw [3] (λv wr=>∃(k:Nat) (L:List (Fin m)),k<=m/\v=h0 ((m:Int)-1-(k:Int))/\L.map Fin.val=(List.range k).map (λi=>m-1-i)/\BkI wr t g m cap a rs/\ab L wr)
  (λv _=>(intOf v+1).toNat)
 case atStart=>exact⟨0,_,yad,by simp,rfl,ax,aC⟩
 case round=>
  exact xat
theorem zc(F n)(S:F.fn 206)(p:F.round=none)(V:1<=n)(t g m cap a rs)(aR:m<=100000)(b)(h:∀aH B,b aH B->BkI aH t g m cap a rs->BkI B t g m cap a rs)(w)(ax:∀W,Below w.heap.size w W->BkI W t g m cap a rs):
  SeqStopsK F n prog 206 #[ge t] (λx:Fin m=>#[Value.int .i64 (x.1:Int),rs[x.1]?.getD .nilFunc]) b (λys=>ys.map Fin.val=(List.range m).map (λi=>m-1-i)) (λ_=>True) m w:=λl ab c W O _ _ f aC=>
 Ow F n S p V l t g m cap a rs aR b h ab c f W (ax W O) aC
end
section
open Go.RowKit Flt
variable{lo P ax aH S t n base:Nat}{u1 u3 ag:Value}{act:List Bool}{bm:Option Nat}{a:Option Addr}{st:List Vl×List Int}
def GI(W0 W1 W:World)(lo P K A S n Bs:Nat)(u1 u3 rv:Value)(act:List Bool)(base:Nat)(R1:Option Nat)(st:List Vl×List Int):Prop:=
 ∃R vv,RSt W0 W1 W lo W0.heap.size P K A S n u1 u3 rv act base R1 R vv st/\Same Bs (Bs+1) W1 W/\R≠some Bs
theorem GI.own{W0 aq W A}(f:GI W0 aq W lo P ax aH S n t u1 u3 ag act base bm st)(j:W0.heap.size<=aq.heap.size){X}(g:W.grownBy A X)(ah:∀r,X=some r->aq.heap.size<=r/\∃o:Obj,W.heap[r]? =some o/\o.isCells=false):GI W0 aq A lo P ax aH S n t u1 u3 ag act base bm st:=by
 obtain⟨R,Y,z,J,al⟩:=f;refine⟨R,_,z.own j g ah,J.chg (eD g) (λb L bi c=>?_),al⟩;have:=(ah b c).1;have:=J.le;omega
def Kpp(lo hi Bs:Nat)(A B:World):Prop:=Same lo hi A B/\Same Bs (Bs+1) A B
theorem Same.put{lo hi N}(W l o ao)(bb:hi<=N)(ab:N<=l)(h:W.heap[l]? =some o):Same lo hi W (W.putObj l ao):=
 ⟨by grind,(grownBy_putObj' W l ao).size,λb z J=>(grownBy_putObj' W l ao).block b (by grind) (λe=>by grind)⟩
theorem Hv{W0 aq W vs0 i aI af G b5 ap mp bZ bC}
  (p:RuleIn W0 lo W0.heap.size P ax vs0 i aI af G b5 ap a mp bZ bC) (aU:GI W0 aq W lo P ax aH S n t u1 u3 ag act base bm st) (aZ:S<lo) (eS:lo<=t) (T:i<n) (aD:vs0.length=n) (aB:Pre vs0 st.1) {aO}{C} (bR:SzU aO C st.1) (I:aO<=700000) (ak:C<=700000000)
  (ab:∀j,j<n->1<=(vs0.getD j h7).len/\(vs0.getD j h7).len<=1000) (cn:∀k,k<cnt (vs0.getD i h7).op->0<=fld (vs0.getD i h7) k/\fld (vs0.getD i h7) k<i):
  Calls prog 204 #[ge aI,ge af,ge G,ge b5] W λe A=>e=.returned (.tuple #[])/\KeepsOthers W A/\Kpp lo W0.heap.size t W A/\GI W0 aq A lo P ax aH S n t u1 u3 ag act base bm (giM vs0 act i st):=by
 obtain⟨R,Y,f,h,au⟩:=aU;have g:=mw (it aD ab);have bO:RSt _ W W _ _ P ax aH S n _ _ _ _ _ R R _ (st.1,st.2):=⟨f.same,f.inr,f.bs,f.bk,f.dj,StQ.refl _ _ _⟩
 have aP:=kN (vs0.getD i h7).op;refine yai (Ov W P ax aH S n R i a p bO aZ T aD aB (λk H=>(qW g bR k).bz xaa xaa) ab ⟨(g _).1,(g _).2⟩ cn) ?_;rintro e A ⟨rfl,R',a5,z,J,al⟩;have F:=f.inr.p
 have an:∀b,lo<=b->b<W0.heap.size->¬((b=P\/b=S)\/R=some b):=λb L bi c=>by
  obtain(c|c)|c:=c
  ·omega
  ·omega
  ·have:=f.inr.r b c;omega
 have l:∀b,t<=b->b<t+1->¬((b=P\/b=S)\/R=some b):=λb L bi c=>by
  obtain rfl:b=t:=xaa
  obtain(c|c)|c:=c
  ·omega
  ·omega
  ·exact au c
 have i1:=f.same.le;have bY:=f.same.size;have x:=h.le;have o:=h.size;refine⟨rfl,al.others f.bs f.bk,⟨(Same.refl xaa).chg al.chg an,(Same.refl xaa).chg al.chg l⟩,_,_,f.give aZ z J al,h.chg al.chg l,λe=>?_⟩;obtain c|⟨r,c,ah⟩:=al.row
 ·rw[c]at e;exact au e
 rw[c]at e;cases e;omega
theorem DM{aH B hi g m cap rs}(k:Kpp lo hi t aH B)(aG:0<m->lo<=g/\g<hi)(h:BkI aH t g m cap a rs):BkI B t g m cap a rs:=
 ⟨by rw[k.2.cell yac yae];exact h.box,λj aK=>by
  obtain⟨z,N,am,J,al⟩:=h.at_ j aK
  have:=aG xaa
  exact⟨z,N,_,J,by rw[k.1.cell this.1 this.2];exact al⟩⟩
def GrO(w:World)(P S:Nat)(u1 u3:Value)(base:Nat)(R:Option Nat)(Maa:List Vl×Int)(e:Ending)(w':World):Prop:=
 e=.returned (.int .i64 Maa.2)/\∃R' vv',BS w' P u1 u3 Maa.1 (dK Maa.1) base R' vv'/\StQ (λb=>b=P\/b=S) R w R' w'
end
section
open Go.RowKit Flt
attribute[local go_sem] dI dG dF fI
theorem LM{us aO C}(h:SzU aO C us)(I:aO<=700000)(ak:C<=700000000):us.length<=800000/\-1000000000<=dK us/\dK us<=800000000:=by
 obtain⟨a1,a2,a3⟩:=h;omega
theorem tM{w lo}(P ax aH S n s x){base u1 u3 Y ag vs0}(R){rs}(bb:NB w w lo P ax aH S n u1 u3 Y ag vs0 x (s-x) base R rs)(ak:NbC lo P ax aH S R)(V:vs0.length=n)(ab:n<=2000)(ai:s<n)(ar:x<n)(bD:∀j,j<n->1<=(vs0.getD j h7).len/\(vs0.getD j h7).len<=1000)(bR:SzU 2000 50000 vs0)(F:(gL vs0 x (s-x)).getD s false=false):
  Calls prog 185 #[ge ax,h0 s,h0 x] w λe D=>GrO w P S u1 u3 base R (grM vs0 s x) e D:=by
 have br:M (grM vs0 s x=(vs0++[dL 1 (vs0.getD x h7).len 0 0 0],(vs0.length:Int))):=by
  show _=_;unfold grM;rw[h2 (by rw[F];simp)]
 have aP:=bb.bk.c0;have aQ:=bb.bk.c1;have aU:=bb.bk.c2;have aj:=BR.cell bb.bk.ac s (it bb.bk.al ai);rw[F]at aj;have c8:=IR.cell bb.bk.sp x (by simp;exact ar);rw[show(List.replicate n _).getD x 0=-1 by simp[List.getD_eq_getElem?_getD,ar]]at c8;have I:=LM bR xaa xaa;have c9:=bD x ar;have be:M _:=lM _ P _ _ _ R _ (vs0.getD x h7).len (BS.keep bb.bs (dH w)) xaa xaa xaa xaa xaa;have bf:M _:=rS P _ R (BS.keep bb.bs (dH w)) x xaa xaa;generalize (vs0.getD x _).len=aO at be bf br;have ay:(0:Int)<=s:=xaa;have cp:(s:Int)<n:=xaa;have cG:(0:Int)<=x:=xaa;have cv:(x:Int)<n:=xaa;have aw:=Q bb.bk;have aJ:=Q ak.dj;clear bb bD bR F I c9 V ak;go_enter func185,ntmps185;go_wp2_with fail
 go_region_held3 (λD=>D.cell? ⟨ax,0,none⟩=some (ge P)) (go_keep) (first
  |(go_at_call 168;refine yai bf.o ?_;rintro e aa ⟨rfl,rfl⟩)
  |(go_at_call 188;refine yai be.o ?_;rintro e Z ⟨rfl,bP,ae,(aT:M _),(K:M _)⟩;have bK:=(aw.o.step aJ.o (StQ.trans ⟨(dH w).chg,.inl rfl⟩ K.o)).c0))
 all_goals
  go_wp2_with fail
  go_ret
  rw[br.o]
  refine⟨rfl,bP,ae,?_,?_⟩
  ·show BS _ _ _ _ (vs0++_) (dK (vs0++_)) _ _ _
   rw[iq]
   exact aT.o
  ·exact StQ.trans ⟨(dH w).chg,.inl rfl⟩ (K.o.mono λb c=>.inl c)
end
section
open Go.RowKit Flt
attribute[local go_sem] dI dG dF fI
attribute[local go_sem] Oper.semAt_some
variable{w:World}{lo P ax aH S n x m base bx:Nat}{u1 u3 ag Y H:Value}{aN:Option Addr}{R bm:Option Nat}{vs0:List Vl}{act:List Bool}{rs:List Value}{st:List Vl×List Int}
structure G1S(w wx:World)(P K A S n:Nat)(u1 u3 rv:Value)(act:List Bool)(base:Nat)(R R1:Option Nat)(vv1:Value)(st:List Vl×List Int):Prop where
 bs:BS wx P u1 u3 st.1 (dK st.1) base R1 vv1
 bk:BK wx K P A S n rv act st.2
 dj:Dj P K A S R1
 stq:StQ (λb=>b=P\/b=S) R w R1 wx
theorem G1S.gi{b4}(f:G1S w b4 P ax aH S n u1 u3 ag act base R bm H st)(ak:NbC lo P ax aH S R)(o):GI w (b4.alloc o) (b4.alloc o) lo P ax aH S n b4.heap.size u1 u3 ag act base bm st:=by
 have k:=dE 0 0 b4 o;have bY:(b4.alloc o).heap.size=b4.heap.size+1:=by simp
 have X:=f.stq.chg.size;refine⟨_,_,⟨?_,⟨ak.p,λb I=>?_⟩,BS.keep f.bs k,f.bk.keep k,f.dj,StQ.refl _ _ _⟩,Same.refl xaa,λe=>?_⟩
 ·refine Same.chg (Same.chg (Same.refl yac) f.stq.chg (λb L bi c=>?_)) (k.chg) (λ_ _ _ h=>h);have z:=ak.p;have J:=ak.s;obtain(c|c)|c:=c
  ·omega
  ·omega
  have:=ak.r b c;omega
 ·obtain c|⟨r,c,ah⟩:=f.stq.row
  ·exact .inl (ak.r b (by grind))
  grind
 have:=(dO f.bs.own (it f.bs.row e)).2;omega
theorem NB.rows(f:NB w w lo P ax aH S n u1 u3 Y (.slice aN m bx) vs0 x m base R rs):∃g,(0<m->lo<=g/\g<w.heap.size)/\∀j,j<m->aN=some ⟨g,0,none⟩/\∃N am,rs[j]?.getD .nilFunc=.func (.func N) #[] am/\w.cell? ⟨g,j,none⟩=some (.func (.func N) #[] am):=by
 by_cases aC:0<m
 ·obtain⟨g,cap,e,I,aG⟩:=f.row.form aC;cases e;refine⟨g,λ_=>⟨I,aG⟩,λj aK=>⟨rfl,?_⟩⟩;have L:rs.length=m:=by have:=f.row.1;omega
  have aj:=f.row.cellAt j xaa;obtain⟨u,bd⟩:∃u,rs[j]? =some u:=⟨_,yal xaa⟩
  obtain⟨C,T,aI,af,G,b5,ap,a,mp,bZ,bC,_,_,_,rfl,_⟩:=f.rl j u bd;simp_all
 simp_all
theorem NB.rule(f:NB w w lo P ax aH S n u1 u3 Y ag vs0 x m base R rs)(j)(aK:j<m):∃aI af G b5 ap a mp bZ bC,rs[j]?.getD .nilFunc=xe aI af G b5/\RuleIn w lo w.heap.size P ax vs0 (x+1+j) aI af G b5 ap a mp bZ bC:=by
 have L:rs.length=m:=ih f.row.1
 obtain⟨u,bd⟩:∃u,rs[j]? =some u:=⟨_,yal xaa⟩
 obtain⟨C,T,aI,af,G,b5,ap,a,mp,bZ,bC,z,J,_,rfl,bL⟩:=f.rl j u bd;exact⟨_,_,_,_,_,a,_,_,_,i0 bd,bL.mono (Same.refl J) z J⟩
theorem BJ{wc}(f:NB w w lo P ax aH S n u1 u3 Y (.slice aN m bx) vs0 x m base R rs)(ak:NbC lo P ax aH S R)(h:G1S w wc P ax aH S n u1 u3 (.slice aN m bx) act base R bm H st)(T):∃g,(0<m->lo<=g/\g<w.heap.size)/\∀W,Below (wc.alloc (.cells #[.slice aN m bx] T)).heap.size (wc.alloc (.cells #[.slice aN m bx] T)) W->BkI W wc.heap.size g m bx aN rs:=by
 obtain⟨g,aG,ah⟩:=f.rows;have X:=h.stq.chg.size;refine⟨g,aG,λW O=>⟨?_,λj aK=>?_⟩⟩
 ·rw[O.cell xac,World.cell?_alloc_at _ _ _ _ rfl];rfl
 obtain⟨e,N,am,z,J⟩:=ah j aK;obtain⟨bz,aJ⟩:=aG xaa;refine⟨e,N,_,z,?_⟩;rw[O.cell yaf,(dE 0 0 _ _).chg (S:=λ_=>False) |>.cell (p:=⟨g,j,_⟩) (by grind) (λh=>h),h.stq.chg.cell aJ ?_]
 ·exact J
 have bw:=ak.p;have p2:=ak.s;rintro ((c|c)|c)
 ·grind
 ·grind
 have:=ak.r g c;omega
theorem DN{i1 W aA us c R'}(h:BS W P u1 u3 us c base R' Y)(s:StQ i1 R w R' W)(bo:w.heap.size<=aA)(bd:W.heap[aA]? =some (.deferred (some []))):BS (W.putObj aA (.deferred none)) P u1 u3 us c base R' Y/\StQ i1 R w R' (W.putObj aA (.deferred none)):=by
 have g:=grownBy_putObj' W aA (.deferred none);have ah:∀r,some aA=some r->w.heap.size<=r/\∃o:Obj,W.heap[r]? =some o/\o.isCells=false:=λr e=>by cases e;exact⟨bo,_,bd,rfl⟩
 exact⟨BS.chg h (eD g) (mx ah (λo av=>jS h.c0 av)) (λb I=>mx ah (λo av=>jI h.own (it h.row I) av)),s.own g (λr e=>(ah r e).1)⟩
theorem vi{w lo}(P ax aH S n s x){m base u1 u3 Y ag vs0}(R){rs}(aR:m=s-x)(bb:NB w w lo P ax aH S n u1 u3 Y ag vs0 x m base R rs)(ak:NbC lo P ax aH S R)(V:vs0.length=n)(ab:n<=2000)(ai:s<n)(ar:x<n)(bD:∀j,j<n->1<=(vs0.getD j h7).len/\(vs0.getD j h7).len<=1000)(bR:SzU 2000 50000 vs0)(cn:∀j,j<n->∀k,k<cnt (vs0.getD j h7).op->0<=fld (vs0.getD j h7) k/\fld (vs0.getD j h7) k<j)(F:(gL vs0 x (s-x)).getD s false=true):
  Calls prog 185 #[ge ax,h0 s,h0 x] w λe D=>GrO w P S u1 u3 base R (grM vs0 s x) e D:=by
 have br:M (grM vs0 s x=BI vs0 x (lN vs0 (gL vs0 x (s-x)) x (oc vs0 s) (qA (s-x)))):=by
  show _=_;unfold grM;grind
 rw[<-aR]at F br;have aP:=bb.bk.c0;have aQ:=bb.bk.c1;have aU:=bb.bk.c2;have bN:=bb.bk.c3;have aj:=BR.cell bb.bk.ac s (by grind);rw[F]at aj;have I:=LM bR xaa xaa;have be:M _:=qz _ P _ R 1 4607182418800017408 (BS.keep bb.bs (dH w)) xaa xaa xaa xaa xaa;have ay:(0:Int)<=s:=xaa;have cp:(s:Int)<n:=xaa;have cG:(0:Int)<=x:=xaa;have cv:(x:Int)<n:=xaa;have bc:=Q bb;have aE:=Q ak;have O:=Q aR;have T:=Q bD;have cz:=Q bR;have e7:=Q cn;have aM:=Q V;clear bb bD bR F I ak aR cn V;refine callsIn_wide.1 (callsIn_of_wp_marks (n:=3) func185 rfl trivial ?_ rfl);simp only[ntmps185,List.size_toArray,yap,List.length_nil,Nat.reduceAdd,Nat.reduceSub,Array.replicate_succ,Array.replicate_zero,List.push_toArray,List.append_toArray,List.nil_append,List.cons_append];rw[wpIn_wide];go_wp2_with fail;go_cut [] from 9 to 61 (λb4=>∃bm H,M (G1S w b4 P ax aH S n u1 u3 ag (gL vs0 x m) base R bm H (oc vs0 s)))
 case first=>
  go_region_held3 (λD=>D.cell? ⟨ax,0,none⟩=some (ge P)/\D.cell? ⟨ax,2,none⟩=some (hZ S n n)) (first|go_keep|(refine⟨?_,?_⟩<;>(rw[dR (.inl (λe=>aE.o.dj.ks e.symm))];assumption))) (first
   |(go_at_call 192;refine yai be.o ?_;rintro e Z ⟨rfl,bP,ae,J,az⟩;have ad:Stp P R w bP Z:=StQ.trans ⟨(dH w).chg,.inl rfl⟩ az;have z:=Q ad;have aT:=Q J;have aX:M _:=bc.o.bk.step aE.o.dj ad;have bK:=aX.o.c0;have bj:=aX.o.c2;have aS:=IR.cell aX.o.sp s (by simp;exact ai);have eS:=IR.free aX.o.sp s;generalize (List.replicate n (-1:Int)).getD s 0=aw at aS;clear ad J az))
  all_goals
   have r:M _:=aE.o.dj.step z.o bc.o.bk.lt bc.o.bk.ac.lt bc.o.bk.sp.lt
   have bm:M (G1S w (Z.setCell ⟨S,s,none⟩ (h0 vs0.length)) P ax aH S n u1 u3 ag (gL vs0 x m) base R bP ae (oc vs0 s)):=by
    refine⟨?_,?_,r.o,StQ.trans (z.o.mono λb c=>.inl c) ⟨dV _ S s _ (.inl (.inr rfl)),.inl rfl⟩⟩
    ·show BS _ _ _ _ (vs0++_) (dK (vs0++_)) _ _ _
     rw[iq]
     exact BS.setS aT.o r.o.sp r.o.rs
    ·have:=aX.o.set r.o s ((vs0.length:Nat):Int)
     unfold oc
     rw[aM.o]at this⊢
     exact this
   clear aX aT z r
   go_wp2_with fail
   go_meet
   exact⟨_,_,bm⟩
 case rest=>
  obtain⟨bm,H,aK⟩:=hcut;clear be aP aQ aU bN aj;have bI:=aK.o.bk.c3;obtain⟨aN,bx,rfl⟩:=jM bc.o.row;go_wp2_with (first|(go_at_call 193;refine yai (callsIn_wide.1 (xg 3 trivial rfl)) ?_;rintro e Z ⟨rfl,rfl⟩)|fail);have C:=BJ bc.o aE.o aK.o 267;obtain⟨g,aG,i⟩:=C;have e6:M _:=aK.o.gi aE.o (.cells #[.slice aN m bx] 267);have a5:lo<=wc.heap.size:=ip aK.o.stq.chg.size bc.o.sz
  have v:w.heap.size<=(wc.alloc (.cells #[.slice aN m bx] 267)).heap.size:=by have:=aK.o.stq.chg.size;simp;omega
  have au:wc.heap.size+1<=(wc.alloc (.cells #[.slice aN m bx] 267)).heap.size:=by simp
  have aV:M (StQ _ R w _ (wc.alloc (.cells #[.slice aN m bx] 267))):=StQ.trans aK.o.stq ⟨(dE 0 0 _ _).chg,.inl rfl⟩;have av:M (SzU 2001 51000 (oc _ s).1/\Pre _ (oc vs0 s).1):=⟨SzU.app (L':=1) (C':=1000) cz.o ⟨by simp,by simp[dK],by simp[dK]⟩,⟨_,rfl⟩⟩
  clear bI;generalize U:wc.alloc _=aq at e6 v i au aV⊢;generalize aW:wc.heap.size=t at e6 i a5 au⊢;clear aK U;refine(wpIn_wide (n:=3)).1 ?_
  refine wpIn_rangeFunc_ownG (F:=Fence.wide) rfl xab (gf:=206) (lb:=#[ge t]) rfl trivial (enters_of func206 (by kernel_rfl) rfl)
   (zc Fence.wide (3-1) trivial rfl xab t g m bx aN rs (ih O.o) (Kpp lo w.heap.size t) (λaH B k h=>DM k aG h) aq i)
   (λh k=>⟨h.1.trans k.1 yac yac,h.2.trans k.2 yac yac⟩) (λW l o ao ab h _ _=>⟨Same.put W l o ao v ab h,Same.put W l o ao au ab h⟩) (Below.refl _ _) (λ_=>rfl)
   (λL W=>GI w aq W lo P ax aH S n t u1 u3 (.slice aN m bx) (gL vs0 x m) base bm (lN vs0 (gL vs0 x m) x (oc vs0 s) (L.map Fin.val))) (λ_ _ _=>False)
   (λL aH B X h ch ah=>h.own v ch ah) (λ_ _ _ _ _ h _ _=>h) e6.o
   (λy:Fin m=>{tmps:=#[ge ax,h0 s,h0 x,undef,undef,undef,h0 0,undef,rs[y.1]?.getD .nilFunc,u9,u10,u11,u12,u13,u14,u15,u16,u17,u18,u19,u20,u21,u22,u23,u24,u25,u26,ge ax,ge ax,.pointer (some ⟨ax,3,none⟩),.slice aN m bx,.func (.func 206) #[] #[ge t],h0 y.1,rs[y.1]?.getD .nilFunc,u34,u35,u36,u37,u38,u39,u40,u41,u42,u43,u44,u45,u46,u47,u48,u49,u50,u51,u52,u53,u54,u55,u56,u57,u58,u59,u60,u61],defers:=[]}) ?assign ?body ?done ?stop
  case assign=>
   intro l y W ax bd;gi_wp2
   exact bd
  case body=>
   rintro l L y W bh bD;obtain⟨aI,af,G,b5,ap,c6,a8,bu,a7,aJ,aC⟩:=bc.o.rule _ y.2;have aY:x+1+y.1<n:=ip O.o y.2
   have a:=pR (act:=gL vs0 x m) (x:=x) (mw (it aM.o T.o)) (L.map Fin.val) _ _ _ av.o.1 av.o.2;have bB:m<=2000:=ih O.o
   have aD:M _:=Hv aC bh aE.o.s a5 aY aM.o a.2.1 a.1 yaf yaf T.o (e7.o _ aY);rw[aJ];clear bh a aC aJ;gi_wp2_with ((try refine⟨trivial,?_⟩);gi_at_call 204;refine(CallsIn.inRound l (callsIn_wide.2 aD.o)).mono ?_;rintro e A ⟨rfl,am,a0,aL⟩)
   refine⟨am.from _,a0,?_⟩;dsimp only;rw[List.map_append,List.map_cons,List.map_nil,rW];exact aL
  case done=>
   rintro aA ys W bo aZ bh bd;rw[aZ]at bh;have a:=pR (act:=gL vs0 x m) (x:=x) (mw (it aM.o T.o)) (qA m) _ _ _ av.o.1 av.o.2;have i1:(qA m).length=m:=by simp[qA]
   have bB:m<=2000:=ih O.o
   rw[i1]at a;obtain⟨bP,ae,f,_,_⟩:=bh;change RSt _ _ _ _ _ _ _ _ _ _ _ _ _ _ _ _ _ _ (lN _ _ x _ (qA m))at f;generalize lN _ _ x _ _=st at f a br;have aB:=yan v bo;have al:M _:=StQ.trans aV.o f.stq;have bk:=Q f;have I:=LM a.1 xaa xaa;have aP:=f.bk.c0;have aU:=f.bk.c2;have c8:=IR.cell f.bk.sp x (it f.bk.ln ar);have c9:=T.o x ar;have p:=a.2.1.at_ (show x<vs0.length by rw[aM.o];exact ar);by_cases an:st.2.getD x 0=-1
   ·rw[an]at c8
    have ct:M (grM vs0 s x=(st.1++[dL 1 (vs0.getD x h7).len 0 0 0],((st.1.length:Nat):Int))):=by
     show _=_;rw[br.o];unfold BI;rw[h3 an]
    have be:M _:=lM _ P _ _ _ _ _ (vs0.getD x h7).len (BS.keep f.bs (dH W)) xaa xaa xaa xaa xaa;have bf:M _:=rS P _ _ (BS.keep f.bs (dH W)) x p.2 xaa;rw[p.1]at bf;generalize (vs0.getD x _).len=aO at be bf ct;have a6:M (W.drew.heap[aA]? =some _):=bd;clear f a I c9 p an br e6 i av bd aZ;go_wp2_with fail
    go_region_held3 (λD=>D.cell? ⟨ax,0,none⟩=some (ge P)) (go_keep) (first
     |(go_at_call 168;refine yai bf.o ?_;rintro e aa ⟨rfl,rfl⟩)
     |(go_at_call 188;refine yai be.o ?_;rintro e Z ⟨rfl,R3,aF,(aT:M _),(K:M _)⟩;have bK:=(bk.o.bk.step bk.o.dj (StQ.trans ⟨(dH W).chg,.inl rfl⟩ K.o)).c0;have bJ:M _:=(StQ.others (K.o.mono λb c=>.inl c) (BS.keep bk.o.bs (dH W)) (bk.o.bk.keep (dH W))).same aA _ a6.o rfl))
    all_goals
     go_wp2_with fail
     refine⟨by simp,.inl ⟨_,_,rfl,run_takeDeferred bJ.o,?_⟩⟩
     have d4:=StQ.trans al.o (StQ.trans ⟨(dH W).chg,.inl rfl⟩ (K.o.mono λb c=>.inl c))
     have cM:BS Z P u1 u3 (st.1++[dL 1 aO 0 0 0]) (dK (st.1++[dL 1 aO 0 0 0])) base R3 aF:=by
      rw[iq]
      exact aT.o
     have bl:=DN cM d4 aB bJ.o
     refine⟨_,results_tmp rfl _ _ _,?_⟩
     rw[ct.o]
     exact⟨rfl,_,_,bl.1,bl.2⟩
   have u:(st.2.getD x 0==-1)=false:=by simp;exact an
   have ct:M (grM vs0 s x=(st.1,st.2.getD x 0)):=by
    show _=_;rw[br.o];unfold BI;rw[h2 an]
   generalize st.2.getD x 0=q at c8 u ct;have a6:=Q bd;clear f a I c9 p an br e6 i av bd aZ;go_wp2_with fail;refine⟨by simp,.inl ⟨_,_,rfl,run_takeDeferred a6.o,?_⟩⟩;have bl:=DN bk.o.bs al.o aB a6.o;refine⟨_,results_tmp rfl _ _ _,?_⟩;rw[ct.o];exact⟨rfl,_,_,bl.1,bl.2⟩
  case stop=>
   rintro aA c L W _ _ h _;exact h.elim
