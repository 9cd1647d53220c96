import Derived.Test.YtiacbhjphaldlaaGreatDoorP15
import Derived.Test.YtiacbhjphaldlaaGreatDoorP16
namespace Go.Proofs.Z
variable{i k}
variable{Zp:Prop}
open Tryz Go.RowKit Flt
set_option maxRecDepth 1000000
set_option maxHeartbeats 0
section
attribute[local go_sem] dI dG dF
variable{G act:List Bool}{w:World}{i P aJ n aH c1 c2 aE c3:Nat}{L U:Option Addr}{vs:List Vl}
def rX(act:List Bool)(v:Vl)(k:Nat):Bool:=(List.range k).any λq=>act.getD (fld v q).toNat false
theorem BL(act v k):rX act v (k+1)=(rX act v k||act.getD (fld v k).toNat false):=by
 simp_all[rX,List.range_succ]
theorem qX{j b}(h:j≠i):(G.set i b).getD j false=G.getD j false:=by
 grind
theorem xl(vs0 x):∀m i,x+m<i->(gL vs0 x m).getD i false=false
 |0,i,h=>by
  rw[gL,qX xaa,yah,List.getElem?_replicate]
  split<;>rfl
 |m+1,i,h=>by rw[gL,qX xaa,xl vs0 x m i xaa]
theorem BM(h:G.getD i false=false):G.set i false=G:=by
 by_cases hi:i<G.length
 ·exact xgt
 exact List.set_eq_of_length_le xaa
structure AcS(w W:World)(P g2 n A:Nat)(b1 b3:Option Addr)(n1 c1 c2 n3 c3:Nat)(vs:List Vl)(act:List Bool):Prop where
 g:G0 W P (.slice b1 n1 c1) (.slice (some ⟨g2,0,none⟩) n c2) (.slice b3 n3 c3)
 v:VA W g2 n vs
 a:BR W A act
 k:Kept 0 0 w W
 n1:P≠A
 n2:g2≠A
 l:w.heap.size<=A
theorem AcS.keep{W A n1}(h:AcS w W P aJ n aH L U n1 c1 c2 aE c3 vs act)(k:Kept 0 0 W A):AcS w A P aJ n aH L U n1 c1 c2 aE c3 vs act:=
 ⟨h.g.keep k,VA.keep h.v k yaa,BR.keep h.a k yaa,h.k.trans k,h.n1,h.n2,h.l⟩
theorem AcS.set{W n1}(h:AcS w W P aJ n aH L U n1 c1 c2 aE c3 vs act)(i b):AcS w (W.setCell ⟨aH,i,none⟩ (.bool b)) P aJ n aH L U n1 c1 c2 aE c3 vs (act.set i b):=
 have k:=dV (S:=λq=>q=aH) W aH i (.bool b) rfl
 ⟨h.g.keepC k h.n1,h.v.keepC k h.n2,BR.set h.a i b,h.k.new (d9 (lo:=aH) (hi:=aH+1) W ⟨aH,i,none⟩ (.bool b) yab) h.l,h.n1,h.n2,h.l⟩
theorem cW.qdo(h:Zp:=by
 have am:=Q be;have e7:=Q cn;clear F af ad bo an be cn;generalize (w.alloc _).alloc _=Z at aR cl aQ c r;go_enter func107,ntmps107;go_wp2_with fail;clear aR aQ c r;generalize Z.setCell _ _=aA at cl⊢;generalize a:w.heap.size+1=aH at cl⊢;clear a;go_loopw [8] (λv W=>∃(i m:Nat),v=h0 i/\i=x+1+m/\m<=s-x/\M (AcS w W w.heap.size aJ n aH L U n1 c1 c2 aE c3 vs (gL vs x m))) (λv _=>s+1-(intOf v).toNat)
 case atStart=>grind
 case round=>
  obtain⟨i,m,rfl,f,y,bb⟩:=hrel;clear cl;by_cases fw:i<=s
  ·have ba:(0:Int)<=i:=xaa;have b2:(i:Int)<n:=xaa;have J:(i:Int)<=s:=xaa;have K:i<n:=xaa;obtain⟨v,aD⟩:∃v,v=vs.getD i h7:=⟨_,rfl⟩
   have cd:=Q aD;have bM:M _:=KC v.op (by rw[aD];exact(am.o i K).1) (by rw[aD];exact(am.o i K).2);have fG:=e7.o i K;rw[<-aD]at fG;have gc:=Q fG
   have cO:M (AcS w wr w.heap.size aJ n aH L U n1 c1 c2 aE c3 vs ((gL vs x m).set i (rX (gL vs x m) v 0))):=by
    have e:(gL _ x m).set i (rX (gL vs x m) v 0)=gL _ x m:=BM (xl vs x m i xaa);show AcS _ _ _ _ _ _ _ _ _ _ _ _ _ _ _;rw[e];exact bb.o
   have l:M (i=x+1+m/\m<=s-x):=⟨f,y⟩
   have fk:M ((gL vs x m).length=n):=by show _=_;rw[mR,O.o]
   have cT:M (gL vs x (m+1)=(gL vs x m).set i (rX (gL vs x m) v (cnt v.op))):=by
    show _=_;rw[gL,<-f,<-aD];rfl
   generalize gL _ x m=act at cO fk cT;have hD:IntKind.i64.wrap (i+1)=i+1:=by rw[IntKind.wrap_i64];omega
   clear bb f y aD fG;go_wp2_with fail;go_loopw [9] (λu W=>∃k:Nat,k<=cnt v.op/\u=h0 k/\M (AcS w W w.heap.size aJ n aH L U n1 c1 c2 aE c3 vs (act.set i (rX act v k)))) (λu _=>cnt v.op-(intOf u).toNat)
   case atStart=>exact⟨0,yad,rfl,cO⟩
   case round=>
    obtain⟨k,H,rfl,aZ⟩:=hrel;clear cO;have aQ:=aZ.o.g.q1;have ce:=aZ.o.v.at_ i K;rw[<-cd.o]at ce;obtain⟨bK,a9,bj,bI,bR,bH⟩:=ce;by_cases aV:k<cnt v.op
    ·obtain⟨o,av,g2⟩:∃o:Nat,fld v k=o/\o<i:=by
      have:=gc.o k aV;exact⟨(fld v k).toNat,by omega,by omega⟩
     have aP:=kN v.op;have ex:M (∀W,Calls _ _ _ W λe D=>e=.returned (.int _ o)/\Kept 0 0 W _):=λW=>by rw[<-av];exact oU W v k xaa
     have c:=BR.cell aZ.o.a o (by rw[List.length_set,fk.o];omega);rw[qX xaa]at c
     have z:M (rX act v (k+1)=(rX act v k||act.getD o false)):=by
      show _=_;rw[BL,av];rfl
     have g:=Q cT.o;have bc:k<(cnt v.op:Int):=xaa;have ca:(0:Int)<=o:=xaa;have b6:(o:Int)<n:=xaa;have gr:IntKind.i64.wrap (k+1)=k+1:=by rw[IntKind.wrap_i64];omega
     have aI:M (∀W,Kept 0 0 _ W->W.cell? _=some _):=λW aT=>by
      rw[aT.cell (p:=⟨aH,o,none⟩) aZ.o.a.lt xaa];exact c
     clear av c;go_wp2_with (first|(go_at_call 111;refine yai (bM.o _) ?_;rintro e b7 ⟨rfl,rfl⟩)|fail);refine yai (ex.o _) ?_;rintro e cf ⟨rfl,ci⟩;have c:=aI.o _ ci;have p:M _:=aZ.o.keep ci;have b:=BR.cell p.o.a i (by rw[List.length_set,fk.o];omega);have r:=BR.free p.o.a i;generalize (act.set i _).getD i _=aw at b;clear aQ bK a9 bj bI bR bH ci aI ex aZ;cases I:act.getD o false
     ·rw[I]at c
      have aF:M (AcS w cf w.heap.size aJ n aH L U n1 c1 c2 aE c3 vs (act.set i (rX act v (k+1)))):=by
       show AcS _ _ _ _ _ _ _ _ _ _ _ _ _ _ _;rw[z.o,I,Bool.or_false];exact p.o
      exact xga
     rw[I]at c
     have aF:M (AcS w (cf.setCell ⟨aH,i,none⟩ (.bool true)) w.heap.size aJ n aH L U n1 c1 c2 aE c3 vs (act.set i (rX act v (k+1)))):=by
      have:=p.o.set i true;rw[List.set_set]at this;show AcS _ _ _ _ _ _ _ _ _ _ _ _ _ _ _;rw[z.o,I,Bool.or_true];exact this
     exact xga
    have bc:¬(k<(cnt v.op:Int)):=xaa;have C:k=cnt v.op:=xaa
    have aF:M (AcS w wr w.heap.size aJ n aH L U n1 c1 c2 aE c3 vs (gL vs x (m+1))):=by
     show AcS _ _ _ _ _ _ _ _ _ _ _ _ _ _ _;rw[cT.o,<-C];exact aZ.o
    clear aZ C;go_wp2_with (first|(go_at_call 111;refine yai (bM.o _) ?_;rintro e b7 ⟨rfl,rfl⟩)|fail);clear aQ bK a9 bj bI bR bH;go_roundw
    case rel=>exact⟨i+1,m+1,by go_num,ih l.o,ih l.o,aF⟩
    case measure=>simp[intOf];omega
  have B:m=s-x:=xaa;have J:¬((i:Int)<=s):=xaa;have q:=Q bb.o;clear bb f;go_wp2_with fail;go_ret;rw[<-B];exact⟨aH,rfl,q.o.a,q.o.l,q.o.k⟩):Zp:=h
open cW in
theorem xq{w}(L U){aJ}(n1 c1){n}(c2 aE c3 s x){vs}(F:VA w aJ n vs)(ab:n<=2000)(ai:s<n)(ar:x<n)(be:∀j,j<n->0<=(vs.getD j h7).op/\(vs.getD j h7).op<=13)(cn:∀j,j<n->∀k,k<cnt (vs.getD j h7).op->0<=fld (vs.getD j h7) k/\fld (vs.getD j h7) k<j):
  Calls prog 107 #[fj L n1 c1 (some ⟨aJ,0,none⟩) n c2 U aE c3,h0 s,h0 x] w λe D=>∃aH,e=.returned (hZ aH n n)/\BR D aH (gL vs x (s-x))/\w.heap.size<=aH/\Kept 0 0 w D:=by
 have aV:=F.lt;have O:=Q F.len;have aR:=yW n (w.alloc (eZ L n1 c1 (some ⟨aJ,0,none⟩) n c2 U aE c3)) xaa;have af:=dE 0 0 w (eZ L n1 c1 (some ⟨aJ,0,none⟩) n c2 U aE c3);have ad:=dE 0 0 (w.alloc (eZ L n1 c1 (some ⟨aJ,0,none⟩) n c2 U aE c3)) (.cells (madeCells #[.bool false] n) 4);have bo:=BR.made (w.alloc (eZ L n1 c1 (some ⟨aJ,0,none⟩) n c2 U aE c3)) n;rw[show(w.alloc _).heap.size=w.heap.size+1 by simp]at bo aR
 have an:M (AcS w _ _ _ n _ _ _ _ _ _ _ _ _ _):=
  ⟨(gQ w _ _ _).keep ad,VA.keep F (af.trans ad) yaa,bo,af.trans ad,by omega,by omega,by omega⟩
 have cl:M (AcS w (((w.alloc (eZ L n1 c1 (some ⟨aJ,0,none⟩) n c2 U aE c3)).alloc (.cells (madeCells #[.bool false] n) 4)).setCell ⟨w.heap.size+1,x,none⟩ (.bool true)) w.heap.size aJ n (w.heap.size+1) L U n1 c1 c2 aE c3 vs (gL vs x 0)):=by
  have:=an.o.set x true;unfold gL;rw[O.o];exact this
 have aQ:=an.o.g.q1;have c:=BR.cell an.o.a x (by grind);have r:=BR.free an.o.a x;exact qdn
def PGo(w:World)(P:Nat)(u1 u3:Value)(base:Nat)(R:Option Nat)(Maa:List Vl×Int)(e:Ending)(w':World):Prop:=
 e=.returned (.int .i64 Maa.2)/\∃R' vv',BS w' P u1 u3 Maa.1 (dK Maa.1) base R' vv'/\Stp P R w R' w'
theorem DO{aa D S base u1 u3 R Maa e}(k:Kept 0 0 w aa)(aZ:w.heap.size<=S)(h:GrO aa P S u1 u3 base R Maa e D):PGo w P u1 u3 base R Maa e D:=by
 obtain⟨rfl,R',a5,I,ai⟩:=h;have s:=k.chg (S:=λ_=>False);refine⟨rfl,_,_,I,⟨ai.chg.os.trans s.os,ai.chg.tape.trans s.tape,ai.chg.output.trans s.output,yan k.size ai.chg.size,λb I V=>?_⟩,?_⟩
 ·rw[ai.chg.block b (yaj I k.size) ?_,s.block b I (λh=>h)];grind
 obtain c|⟨r,c,ah⟩:=ai.row
 ·exact .inl c
 exact .inr ⟨r,c,yan k.size ah⟩
theorem KH{ins}(ap:(List.range vs.length).all (okV ins vs)=true):∀i,i<vs.length->((vs.getD i h7).op=9\/(vs.getD i h7).op=11)->∃j:Nat,(vs.getD i h7).a=(j:Int)/\j<vs.length/\(vs.getD j h7).len=laM vs i/\1<=laM vs i/\laM vs i<=1000:=λi hi av=>by
 have h:=kC (List.all_eq_true.1 ap i (List.mem_range.2 hi)) 0 (by obtain c|c:=av<;>(rw[c];decide))
 have e:fld _ 0=(vs.getD i h7).a:=rfl
 rw[e]at h
 have aK:(vs.getD i h7).a.toNat<vs.length:=xaa
 have ab:=iA (List.all_eq_true.1 ap _ (List.mem_range.2 aK))
 exact⟨_,by omega,aK,rfl,ab.1,ab.2⟩
theorem Hw(w P u1 u3 Y ins vs0 base R n s x)(h:BS w P u1 u3 vs0 (dK vs0) base R Y)(V:vs0.length=n)(ab:n<=2000)(ai:s<n)(ar:x<n)(ap:(List.range n).all (okV ins vs0)=true)(cO:dK vs0<=50000):
  Calls prog 174 #[ge P,h0 s,h0 x] w λe D=>PGo w P u1 u3 base R (grM vs0 s x) e D:=by
 have bD:∀j,j<n->_:=λj aK=>iA (List.all_eq_true.1 ap j (List.mem_range.2 aK));have cn:∀j,j<n->∀k,k<cnt _->_:=λj aK=>kC (List.all_eq_true.1 ap j (List.mem_range.2 aK));have bd:=jH vs0 (λj aK=>by grind);have bR:SzU 2000 _ _:=⟨by omega,bd,cO⟩
 have be:M _:=xh w P R n s x h V ab ai ar bD (λj aK=>GZ (List.all_eq_true.1 ap j (List.mem_range.2 aK))) cn (by subst V;exact KH ap)
 have br:M (∀aa ax,(∃lo aH S ag rs,NB aa aa lo P ax aH S n u1 u3 Y ag vs0 x (s-x) base R rs/\NbC lo P ax aH S R/\(w.heap.size<=ax/\w.heap.size<=aH/\w.heap.size<=S/\w.heap.size<=lo)/\Kept 0 0 w aa)->Calls prog 185 #[ge ax,h0 s,h0 x] aa λe D=>PGo w P u1 u3 base R (grM vs0 s x) e D):=by
  rintro aa ax ⟨lo,aH,S,ag,rs,bb,ak,av,H⟩;cases F:(gL vs0 x (s-x)).getD s false
  ·exact(tM P ax aH S n s x R bb ak V ab ai ar bD bR F).mono λe D aN=>DO H av.2.2.1 aN
  exact(vi P ax aH S n s x R rfl bb ak V ab ai ar bD bR cn F).mono λe D aN=>DO H av.2.2.1 aN
 clear h bD cn bd bR ap cO V;go_enter func174,ntmps174;go_wp2_with fail;refine yai be.o ?_;rintro e aa ⟨lo,ax,aH,S,ag,rs,rfl,bb,ak,av,H⟩;have bu:M _:=br.o _ ax ⟨_,aH,S,_,_,bb,ak,av,H⟩;clear bb ak av H be br;go_wp2_with fail;refine yai bu.o ?_;rintro e Z ⟨rfl,bP,ae,(aT:M _),(K:M _)⟩;clear bu;go_wp2_with fail;go_ret;exact⟨rfl,_,_,aT.o,K.o⟩
end
section
variable{w aa A:World}{sl ins outs bc:List Int}{n aM n1 aH K aE ag base cap cap' B:Nat}{st:List Vl×List Int}{act:List Bool}{L U a2 a2':Option Addr}{vs vs2:List Vl}{R R':Option Nat}
structure LK(w W:World)(b1:Option Addr)(n1 e1:Nat)(b3:Option Addr)(n3 e3:Nat)(ins outs:List Int)(vs:List Vl)(base:Nat)(R:Option Nat)(a2:Option Addr)(cap:Nat):Prop where
 g:SG W w.heap.size b1 n1 e1 b3 n3 e3 vs base R a2 cap
 b:RB W (w.heap.size+1) (.slice none 0 0) (.slice none 0 0) (.slice none 0 0)
 i:W.ownsRow base 3 1 (.slice b1 n1 e1) n1 (ins.map (Value.int .i64))
 o:W.ownsRow base 3 1 (.slice b3 n3 e3) n3 (outs.map (Value.int .i64))
 k:Kept 0 0 w W
 hb:w.heap.size+1+1<=base
 a1:Apart (.slice b1 n1 e1) (.slice a2 vs.length cap)
 a3:Apart (.slice b3 n3 e3) (.slice a2 vs.length cap)
 a4:Apart (.slice b1 n1 e1) (.slice b3 n3 e3)
theorem LK.keep{W}(h:LK w W L n1 K U aE ag ins outs vs base R a2 cap)(k:Kept 0 0 W A):LK w A L n1 K U aE ag ins outs vs base R a2 cap:=
 {h with g:=h.g.keep k,b:=h.b.keep k,i:=dW h.i k,o:=dW h.o k,k:=h.k.trans k}
structure Farb(w:World)(b1:Option Addr)(n1 e1:Nat)(b3:Option Addr)(n3 e3:Nat)(R:Option Nat)(B:Nat):Prop where
 p:w.heap.size+1+1<=B
 r:R≠some B
 i:(Value.slice b1 n1 e1).ownBlock≠some B
 o:(Value.slice b3 n3 e3).ownBlock≠some B
theorem LK.far{W}(h:LK w W L n1 K U aE ag ins outs vs base R a2 cap)(ax:W.heap.size<=B):Farb w L n1 K U aE ag R B where
 p:=ih h.b.sz
 r:=λc=>by have:=(dO h.g.own (h.g.row.trans c)).2;omega
 i:=λc=>ih ((dO h.i c).2)
 o:=λc=>ih ((dO h.o c).2)
theorem cU.qdm(h:Zp:=by
 exact {
  g:=⟨by simpa using h.g.lt,λo=>by simp[h.g.free o],by rw[c _ _ xaa];exact h.g.c0,by rw[c _ _ xaa];exact h.g.c1,by rw[c _ _ xaa];exact h.g.c2,dP h.g.own (it h.g.row t.r),h.g.row,h.g.ne,by simpa using h.g.sz⟩
  b:=⟨by simpa using ar,by rw[c _ _ xaa];exact bJ,by rw[c _ _ xaa];exact ba,by rw[c _ _ xaa];exact bu,by simp[bG],by simp[bB],by simp[bQ]⟩
  i:=dP h.i t.i
  o:=dP h.o t.o
  k:=iz w W h.k B j _ xaa
  hb:=h.hb,a1:=h.a1,a3:=h.a3,a4:=h.a4}):Zp:=h
open cU in
theorem LK.other{W}(h:LK w W L n1 K U aE ag ins outs vs base R a2 cap)(t:Farb w L n1 K U aE ag R B)(j u):LK w (W.setCell ⟨B,j,none⟩ u) L n1 K U aE ag ins outs vs base R a2 cap:=by
 exact qdl
theorem Z.qbe(h:Zp:=by
 exact⟨{
  g:=bg
  b:=h.b.stq a8 xaa f
  i:=qU h.i a8 i1 ay
  o:=qU h.o a8 b6 ca
  k:=Chg.kept h.k a8.chg (by
   rintro i (c|c)
   ·omega
   ·have:=(dO h.g.own (h.g.row.trans c)).1;have:=h.hb;omega)
  hb:=h.hb
  a1:=t
  a3:=aO
  a4:=h.a4},a8⟩):Zp:=h
open Z in
theorem LK.step{W Z ao l h'}(h:LK w W L n1 K U aE ag ins outs vs base R a2 cap)(k:Kept 0 0 W aa)
  (own:Z.ownsRow base 74 6 (.slice a2' vs2.length cap') vs2.length (f9 vs2)) (X:(Value.slice a2' vs2.length cap').ownBlock=R') (s:StQ (λ_=>False) R aa R' Z) (ad:Kept l h' Z ao) (ab:W.heap.size<=l) (au:∀g,R'=some g->g<l\/h'<=g):
  LK w (eY ao w.heap.size (.slice L n1 K) (.slice a2' vs2.length cap') (.slice U aE ag)) L n1 K U aE ag ins outs vs2 base R' a2' cap'/\StQ (λi=>i=w.heap.size) R W R' (eY ao w.heap.size (.slice L n1 K) (.slice a2' vs2.length cap') (.slice U aE ag)):=by
 obtain⟨bg,a8⟩:=h.g.put2 k own X s ad ab au;exact qbd
theorem LK.read{W}(h:LK w W L n1 K U aE ag ins outs vs base R a2 cap)(V:0<vs.length):
  ∃g,a2=some ⟨g,0,none⟩/\R=some g/\g<W.heap.size/\∀j,j<vs.length->At W g (j*6) (vs.getD j h7):=by
 exact xfu
theorem LK.fin{W}(h:LK w W L n1 K U aE ag ins outs vs base R a2 cap)(k:Kept 0 0 W A):
  ((eY A (w.heap.size+1) (.slice L n1 K) (.slice a2 vs.length cap) (.slice U aE ag)).ownsRow w.heap.size 3 1 (.slice L n1 K) n1 (ins.map (Value.int .i64))/\(eY A (w.heap.size+1) (.slice L n1 K) (.slice a2 vs.length cap) (.slice U aE ag)).ownsRow w.heap.size 74 6 (.slice a2 vs.length cap) vs.length (f9 vs)/\(eY A (w.heap.size+1) (.slice L n1 K) (.slice a2 vs.length cap) (.slice U aE ag)).ownsRow w.heap.size 3 1 (.slice U aE ag) aE (outs.map (Value.int .i64)))/\Kept 0 0 w (eY A (w.heap.size+1) (.slice L n1 K) (.slice a2 vs.length cap) (.slice U aE ag)):=by
 exact xcp
theorem LK.call{w W aq n1 K aE ag base cap L U a2 ins outs vs R}(h:LK w W L n1 K U aE ag ins outs vs base R a2 cap)(k:Kept 0 0 W aq)(u)(V:vs.length<=1000000):
  Calls prog 109 #[fj L n1 K a2 vs.length cap U aE ag,u.agg] aq λe Z=>∃aY cap',e=.returned (fj L n1 K (some ⟨aY,0,none⟩) (vs.length+1) cap' U aE ag)/\
   (∃u,Z.cell? ⟨w.heap.size,0,none⟩=some u)/\(∃u,Z.cell? ⟨w.heap.size,1,none⟩=some u)/\(∃u,Z.cell? ⟨w.heap.size,2,none⟩=some u)/\(∀o,Z.frozen? ⟨w.heap.size,o,none⟩=false)/\
   M (LK w (eY Z w.heap.size (.slice L n1 K) (hZ aY (vs.length+1) cap') (.slice U aE ag)) L n1 K U aE ag ins outs (vs++[u]) base (some aY) (some ⟨aY,0,none⟩) cap'/\StQ (λi=>i=w.heap.size) R W (some aY) (eY Z w.heap.size (.slice L n1 K) (hZ aY (vs.length+1) cap') (.slice U aE ag))):=by
 exact xbi
structure LG(w W:World)(Mb A:Nat)(b1:Option Addr)(n1 e1:Nat)(b3:Option Addr)(n3 e3:Nat)(ins outs:List Int)(vs:List Vl)(mv:List Int)(act:List Bool)(base:Nat)(R:Option Nat)(a2:Option Addr)(cap:Nat):Prop where
 l:LK w W b1 n1 e1 b3 n3 e3 ins outs vs base R a2 cap
 m:IR W Mb mv
 a:BR W A act
 fm:Farb w b1 n1 e1 b3 n3 e3 R Mb
 fa:Farb w b1 n1 e1 b3 n3 e3 R A
 ne:Mb≠A
theorem LG.keep{W}(h:LG w W aM aH L n1 K U aE ag ins outs vs bc act base R a2 cap)(k:Kept 0 0 W A):LG w A aM aH L n1 K U aE ag ins outs vs bc act base R a2 cap:=
 ⟨h.l.keep k,h.m.keep k yaa,h.a.keep k yaa,h.fm,h.fa,h.ne⟩
theorem LG.set{W}(h:LG w W aM aH L n1 K U aE ag ins outs vs bc act base R a2 cap)(j r):LG w (W.setCell ⟨aM,j,none⟩ (h0 r)) aM aH L n1 K U aE ag ins outs vs (bc.set j r) act base R a2 cap:=
 ⟨h.l.other h.fm j _,h.m.set j r,h.a.keepC (dV (S:=λq=>q=aM) W aM j (h0 r) rfl) (λe=>h.ne e.symm),h.fm,h.fa,h.ne⟩
theorem LG.stq{W}(h:LG w W aM aH L n1 K U aE ag ins outs vs bc act base R a2 cap)(l:LK w A L n1 K U aE ag ins outs vs2 base R' a2' cap')(q:StQ (λi=>i=w.heap.size) R W R' A):LG w A aM aH L n1 K U aE ag ins outs vs2 bc act base R' a2' cap':=by
 have a:∀{B},B<W.heap.size->Farb w L n1 K _ _ _ R B->Farb w _ _ _ U aE ag R' B:=λax t=>⟨t.p,by
  obtain e|⟨r,e,ah⟩:=q.row
  ·rw[e];exact t.r
  grind,t.i,t.o⟩
 refine⟨l,h.m.stq q (ih h.fm.p) h.fm.r,h.a.keepC q.chg ?_,a h.m.lt h.fm,a h.a.lt h.fa,h.ne⟩;rintro (c|c)
 ·have:=h.fa.p;omega
 exact h.fa.r c
def gdn(vs:List Vl)(act:List Bool)(s:Nat):Nat->List Vl×List Int
 |0=>oc vs s
 |j+1=>giM vs act (s-j) (gdn vs act s j)
theorem rY(vs act s x):∀k,k<=s-x->lN vs act x (oc vs s) ((List.range k).map (λi=>(s-x)-1-i))=gdn vs act s k
 |0,_=>rfl
 |k+1,h=>by
  rw[List.range_succ,List.map_append,List.map_cons,List.map_nil,rW,rY _ _ s x k xaa,gdn]
  grind
def vn(n:Nat)(act:List Bool)(sl:List Int):Prop:=∀q,q<n->sl.getD q 0=-1\/(0<=sl.getD q 0/\act.getD q false=true)
theorem LN{p}[Decidable p]{a b:List Vl×Int}(F:0<=a.2)(I:0<=b.2):0<=(if p then a else b).2:=by grind
theorem LO(i v la k d N)(aT:0<=d):0<=(iR i v la k d N).2:=by
 unfold iR;repeat' (apply LN)
 all_goals omega
theorem xr{o p}(h:vn n act sl)(ab:sl.length=n)(aB:0<=p)(F:act.getD o false=true):vn n act (sl.set o p):=λq an=>by
 rw[yah,List.getElem?_set]
 by_cases e:o=q
 ·simp_all
 ·rw[h2 e,<-yah]
  exact h q an
theorem Hx(h:vn n act st.2)(ab:st.2.length=n)(aT:0<=st.2.getD i 0):vn n act (gkM vs act i k st).2:=by
 grind[gkM,jN,xr,LO]
theorem BN{o p}(h:o≠i):(jN vs o p st).2.getD i 0=st.2.getD i 0:=by
 unfold jN;grind
theorem Hy(h:(fld (vs.getD i h7) k).toNat≠i):(gkM vs act i k st).2.getD i 0=st.2.getD i 0:=by
 grind[gkM,BN]
theorem rZ{vs act i st}:∀k,(∀q,q<k->(fld (vs.getD i h7) q).toNat≠i)->(iX vs act i st k).2.getD i 0=st.2.getD i 0
 |0,_=>rfl
 |k+1,h=>by rw[iX,Hy (h k yae),rZ k (λq an=>h q xaa)]
theorem r6{vs act n i st}(h:vn n act st.2)(ab:st.2.length=n)(aT:0<=st.2.getD i 0):∀k,(∀q,q<k->(fld (vs.getD i h7) q).toNat≠i)->vn n act (iX vs act i st k).2
 |0,_=>h
 |k+1,bi=>Hx (r6 h ab aT k (λq an=>bi q xaa)) (by rw[oZ];exact ab) (by grind[rZ])
theorem Hz(h:vn n act st.2)(ab:st.2.length=n)(hi:i<n)(bi:∀q,q<cnt (vs.getD i h7).op->(fld (vs.getD i h7) q).toNat≠i):vn n act (giM vs act i st).2:=by
 unfold giM;split
 ·exact h
 rename_i aj;exact r6 h ab (by obtain c|c:=h i hi<;>grind) _ bi
structure GdI(vs:List Vl)(act:List Bool)(n:Nat)(L:Nat)(C:Int)(st:List Vl×List Int):Prop where
 i:vn n act st.2
 l:st.2.length=n
 p:Pre vs st.1
 z:SzU L C st.1
theorem Aw{vs act n s}(V:vs.length=n)(ai:s<n)(bR:SzU 2000 50000 vs)(I:LnB vs)(F:act.getD s false=true)(bi:∀i,i<n->∀q,q<cnt (vs.getD i h7).op->(fld (vs.getD i h7) q).toNat≠i):∀j,j<=s->GdI vs act n (2001+12*j) (51000+12000*(j:Int)) (gdn vs act s j)
 |0,_=>by
  refine⟨?_,by simp[gdn,oc,V],⟨_,rfl⟩,?_⟩
  ·refine xr (λq an=>.inl ?_) (by grind) xaa F
   simp_all
  ·exact(SzU.app (L':=1) (C':=1000) bR ⟨by simp,by simp[dK],by simp[dK]⟩).mono xaa xaa
 |j+1,h=>by
  have O:=Aw V ai bR I F bi j xaa
  exact⟨Hz O.i O.l xaa (bi _ xaa),by rw[gdn,Av];exact O.l,Au O.p,(DL I O.z).mono xaa xaa⟩
theorem l4{s q}(h:q<=s):(sl.take (s+1)).getD q 0=sl.getD q 0:=by
 grind
theorem pS(sl:List Int)(s o p):(sl.take (s+1)).set o p=(sl.set o p).take (s+1):=List.take_set.symm
theorem BO(vs s)(ai:s<vs.length):(List.replicate (s+1) (-1:Int)).set s (vs.length:Nat)=(oc vs s).2.take (s+1):=by
 unfold oc;simp only;rw[<-pS,List.take_replicate,show min (s+1) vs.length=s+1 by omega]
theorem cD.qct(h:Zp:=by
 have a:RB (eY aa w.heap.size (.slice L n1 aW) (.slice a2 aI bA) (.slice U aE bs)) (w.heap.size+1) (.slice none 0 0) (.slice none 0 0) (.slice none 0 0):=by
  obtain⟨ar,bJ,ba,bu,bG,bB,bQ⟩:=au.keep k;exact xdl
 have bj:=a0.size;subst V
 exact {
  g:=⟨bY,λo=>by
    unfold eY
    simp[k.frozen (p:=⟨w.heap.size,o,none⟩) bL.sz xaa,bi o],aP,aQ,aU,p2,rfl,λc=>by grind,yan cM bj⟩
  b:=a
  i:=bw
  o:=ah
  k:=Kept.new (aB.trans k) a0 yac
  hb:=i
  a1:=λB z J=>bg B J z
  a3:=λB z J=>a8 B J z
  a4:=bE}):Zp:=h
theorem cD.qfg(h:Zp:=by
 have key:∀{e size n:Nat}{v:Value}{G:List _},aa.ownsRow base e _ v n G->(eY aa _ _ _ _).ownsRow _ e size v n _/\(∀B,v.ownBlock=some B->w.heap.size+1+1<=B/\B<aa.heap.size):=λh=>
  ⟨jG h a0 (λb I=>ih ((dO h I).1)),λB ax=>ih (dO h ax)⟩
 exact qcs):Zp:=h
open cD in
theorem LK.start{aI aW bA bs g aw u1 ap}(V:vs.length=aI)
  (bL:G0 ((w.alloc g).alloc io) w.heap.size aw u1 ap) (bi:∀o,((w.alloc g).alloc io).frozen? ⟨w.heap.size,o,none⟩=false) (au:RB ((w.alloc g).alloc io) (w.heap.size+1) (.slice none 0 0) (.slice none 0 0) (.slice none 0 0)) (k:Kept 0 0 ((w.alloc g).alloc io) aa) (i:w.heap.size+1+1<=base) (cM:base<=aa.heap.size)
  (ca:aa.ownsRow base 3 1 (.slice L n1 aW) n1 (ins.map (Value.int .i64))) (b6:aa.ownsRow base 74 6 (.slice a2 aI bA) aI (f9 vs)) (aO:aa.ownsRow base 3 1 (.slice U aE bs) aE (outs.map (Value.int .i64)))
  (bg:Apart (.slice a2 aI bA) (.slice L n1 aW)) (a8:Apart (.slice a2 aI bA) (.slice U aE bs)) (bE:Apart (.slice L n1 aW) (.slice U aE bs)):
  LK w (eY aa w.heap.size (.slice L n1 aW) (.slice a2 aI bA) (.slice U aE bs)) L n1 aW U aE bs ins outs vs base (Value.slice a2 aI bA).ownBlock a2 bA:=by
 exact qff
end
section
attribute[local go_sem] dI dG dF
variable{A b7:World}{P aM base:Nat}{u1 u3 Y:Value}{bi R:Option Nat}{vs:List Vl}{bc:List Int}
structure JT(W w6:World)(P Mb:Nat)(u1 u3:Value)(base:Nat)(R0:Option Nat)(vs:List Vl)(mv:List Int)(R:Option Nat)(vv:Value):Prop where
 b:BS W P u1 u3 vs (dK vs) base R vv
 m:IR W Mb mv
 s:Stp P R0 w6 R W
 dM:w6.heap.size<=Mb
 ne1:Mb≠P
 r1:R≠some Mb
theorem JT.put{W b7 P aM base u1 u3 bi vs bc R Y}(h:JT W b7 P aM u1 u3 base bi vs bc R Y)(j r):JT (W.setCell ⟨aM,j,none⟩ (h0 r)) b7 P aM u1 u3 base bi vs (bc.set j r) R Y where
 b:=h.b.other h.ne1 h.r1
 m:=h.m.set j r
 s:=⟨by
  have c:=dV (S:=λb=>b=aM) W _ j (h0 r) rfl
  exact⟨c.os.trans h.s.chg.os,c.tape.trans h.s.chg.tape,c.output.trans h.s.chg.output,yan h.s.chg.size c.size,λk H V=>(c.block k (yaj H h.s.chg.size) (λe=>by have e:=e;have:=h.dM;omega)).trans (h.s.chg.block k H V)⟩,h.s.row⟩
 dM:=h.dM
 ne1:=h.ne1
 r1:=h.r1
theorem JT.step{W a R' a5}(h:JT W b7 P aM u1 u3 base bi vs bc R Y)
  (I:BS A P u1 u3 (vs++a) (dK vs+dK a) base R' a5) (s:Stp P R W R' A):JT A b7 P aM u1 u3 base bi (vs++a) bc R' a5 where
 b:=by rw[iq];exact I
 m:=h.m.stp s h.ne1 h.r1
 s:=h.s.trans s
 dM:=h.dM
 ne1:=h.ne1
 r1:=λe=>by
  obtain q|⟨r,q,ah⟩:=s.row
  ·exact h.r1 (by grind)
  ·rw[q]at e
   cases e
   have:=h.m.lt
   omega
theorem JT.keepJ{W}(h:JT W b7 P aM u1 u3 base bi vs bc R Y)(k:Kept 0 0 W A):JT A b7 P aM u1 u3 base bi vs bc R Y where
 b:=h.b.keep k
 m:=IR.keep h.m k yaa
 s:=h.s.trans ⟨k.chg,.inl rfl⟩
 dM:=h.dM
 ne1:=h.ne1
 r1:=h.r1
theorem BP{W ins x t aI}(m:JT W b7 P aM u1 u3 base bi (jst vs x t k).1 (jst vs x t k).2 R Y)(V:vs.length=aI)(cl:aI<=2000)(H:x+1+k<aI)(ap:(List.range aI).all (okV ins vs)=true)(aj:dK vs<=50000):
  Calls prog 187 #[ge P,h0 (x+1+k:Nat),hZ aM aI aI] W λe D=>∃r,e=.returned (h0 r)/\M (∃R' a5,JT (D.setCell ⟨aM,x+1+k,none⟩ (h0 r)) b7 P aM u1 u3 base bi (jst vs x t (k+1)).1 (jst vs x t (k+1)).2 R' a5)/\(∃u,D.cell? ⟨aM,x+1+k,none⟩=some u)/\D.frozen? ⟨aM,x+1+k,none⟩=false:=by
 have ab:∀j,j<vs.length->_:=λj aK=>iA (List.all_eq_true.1 ap j (List.mem_range.2 xaa));have bd:=jH vs (λj aK=>ih (ab j aK));obtain⟨a9,bj,bI⟩:=mQ _ x t ab bd aj k xaa;have bD:=oV vs x t k;have aD:=ab (x+1+k) xaa
 have a:vs.length<=(jst vs x t k).1.length:=by
  obtain⟨r,h⟩:=oW vs x t k;rw[h,yak];omega
 refine(Lo W P R m.b xaa (qT x t k xaa) ⟨by omega,by omega,by omega,by omega,by omega⟩ m.m xaa (λq an=>by
  have:=kC (List.all_eq_true.1 ap _ (List.mem_range.2 H)) q an
  omega)).mono ?_
 rintro e D ⟨rfl,R',a5,I,ai⟩;have J:=m.step I ai;exact⟨_,rfl,⟨_,_,J.put _ _⟩,⟨_,J.m.cell _ xaa⟩,J.m.free _⟩
theorem cN.qdd(h:Zp:=by
 obtain⟨bW,cap,rfl,_,_⟩:=m.b.read fa;have a:=Q m;have T:M _:=λD (d:Drawn _ D)=>An _ P R s (m.b.keep (d.kept 0 0)) (ih O.o);rw[qT x t _ (ih O.o)]at T;clear m bD fa d3;generalize aR:(jst _ x t _).2.getD s 0=ea at cs p;by_cases bp:ea=-1
 ·subst bp;have d1:M (i9 vs s x t=((jst vs x t (s-x)).1++[dL 1 (vs.getD s h7).len 0 0 0],(((jst vs x t (s-x)).1.length:Nat):Int))):=by simp_all
  clear p aR;have ab:∀j,j<vs.length->_:=λj aK=>iA (List.all_eq_true.1 em.o j (List.mem_range.2 (iv O.o aK)));obtain⟨a9,bj,bI⟩:=mQ _ x t ab (jH _ (λj aK=>by grind)) cv.o (s-x) (ix O.o);have au:=ab s (it O.o ai)
  have bY:(jst vs x t (s-x)).1.length<=1000000/\dK (jst vs x t (s-x)).1<=1000000000:=by
   have:=O.o;omega
  have cz:M _:=λD (d:Drawn _ D)=>lM _ P _ _ _ R _ (vs.getD s h7).len (a.o.b.keep (d.kept 0 0)) bY.1 xaa bY.2 xaa xaa;clear ab a9 bj bI au bY;generalize (vs.getD s _).len=B at cz T d1;have b:=T.o _ (Drawn.refl _);go_wp2_with fail;clear cs;refine yai (T.o _ (Drawn.refl _)) ?_;rintro e L ⟨rfl,bo⟩;go_wp2_with fail;refine yai (cz.o _ bo) ?_;rintro e aj ⟨rfl,bP,ae,aW,cp⟩;have q:=(a.o.keepJ (bo.kept 0 0)).step aW cp;obtain⟨g,ax,rfl,_,_⟩:=q.b.read xac;have al:=Q q;clear q aW cp cz a T b bo;go_wp2;go_ret;rw[d1.o];exact⟨rfl,_,_,al.o.b,al.o.s⟩
 have fc:=yam bp
 have d1:M (i9 vs s x t=((jst vs x t (s-x)).1,ea)):=by
  show _=_;rw[p.o,h2 bp]
 clear p bp aR T;go_wp2;go_ret;rw[d1.o];exact⟨rfl,_,_,a.o.b,a.o.s⟩):Zp:=h
open cN in
theorem LP(b7 P base aI u1 u3)(s x t:Nat)(ins vs bi Y)(I:BS b7 P u1 u3 vs (dK vs) base bi Y)
  (V:vs.length=aI) (cl:aI<=2000) (ap:(List.range aI).all (okV ins vs)=true) (cO:dK vs<=50000) (ai:s<aI) (ar:x<aI):
  Calls prog 176 #[ge P,h0 s,h0 x,h0 t] b7 λe D=>PGo b7 P u1 u3 base bi (i9 vs s x t) e D:=by
 have em:=Q ap;have cv:=Q cO;have O:=Q V;have U:M (∀cf,Kept 0 0 _ _->IR _ _ (List.replicate aI (-1))->JT cf _ P _ _ _ _ _ _ _ _ _):=λcf k bH=>⟨I.keep k,bH,⟨k.chg,.inl rfl⟩,yac,λe=>ih I.lt,λe=>by have:=(dO I.own (I.row.trans e)).2;omega⟩
 obtain⟨f,c,rfl,_,_⟩:=I.read xaa;have a9:=I.c1;rw[V]at a9;have aa:M _:=KD b7 aI xaa;clear ap cO V I;go_enter func176,ntmps176;go_wp2_with fail;clear a9;refine yai aa.o ?_;rintro e cf ⟨rfl,bH,ci⟩;have ej:=bH.cell x yaf;have cF:=bH.free x;have a:M _:=U.o _ ci bH
 have c9:M (∃R Y,JT _ _ P _ _ _ _ _ (jst _ x t 0).1 (jst _ x t 0).2 R Y):=⟨_,_,by
  have:=a.o.put x (t:Int)
  unfold jst
  rw[O.o]
  exact this⟩
 clear bH ci a U aa;generalize (List.replicate _ (-1:Int)).getD x 0=aX at ej;have aT:(0:Int)<=x:=xaa;have e8:(x:Int)<aI:=xaa;go_wp2_with fail;clear ej cF;go_loopw [10] (λv W=>∃k:Nat,k<=s-x/\v=h0 (x+1+k:Nat)/\M (∃R Y,JT W b7 P b7.heap.size u1 u3 base bi (jst vs x t k).1 (jst vs x t k).2 R Y)) (λv _=>s+1-(intOf v).toNat)
 case atStart=>exact⟨0,yad,by simp,c9⟩
 case round=>
  obtain⟨k,H,rfl,m⟩:=hrel;clear c9;by_cases aV:k<s-x
  ·obtain⟨R,Y,m⟩:=m.o;have be:M _:=BP m O.o cl xaa em.o cv.o;have i1:(x+1+k:Nat)<=(s:Int):=xaa;have K:x+1+k<aI:=xaa;have gw:x+1+k<=s:=xaa;clear m;generalize hi:x+1+k=i at be i1 K gw;go_wp2_with fail;refine yai be.o ?_;rintro e bn ⟨r,rfl,bm,⟨u,bd⟩,bM⟩;clear be;go_wp2;go_roundw
   case rel=>exact⟨k+1,by omega,by rw[<-hi];go_num,bm⟩
   case measure=>simp[intOf];omega
  obtain rfl:k=s-x:=xaa;obtain⟨R,Y,m⟩:=m.o;have bD:=oV vs x t (s-x);have cs:=m.m.cell s (by rw[bD,O.o];exact ai);have cd:¬((x+1+(s-x):Nat)<=(s:Int)):=xaa
  have d3:vs.length<=(jst vs x t (s-x)).1.length:=by
   obtain⟨r,h⟩:=oW vs x t (s-x);rw[h,yak];omega
  have fa:0<(jst vs x t (s-x)).1.length:=ih O.o
  exact qdc
