import Derived.Test.YtiacbhjphaldlaaGreatDoorP14
namespace Go.Proofs.Z
variable{Zp:Prop}
open Tryz
set_option maxRecDepth 1000000
set_option maxHeartbeats 0
open Go.RowKit Flt
attribute[local go_sem] dI dG dF fI
theorem cV.qdo(h:Zp:=by
 obtain⟨lo,a5⟩:∃lo,lo=wc.heap.size:=⟨_,rfl⟩
 rw[<-a5]at aE av H;have ay:=Q a5;clear bb ew bc C ee a5;go_wp2_with fail;clear a9 c r;generalize wc.setCell _ _=aA at av al⊢;go_loopw [9] (λv W=>∃(i m:Nat) (ag:Value) (rs:List Value),v=h0 i/\i=x+1+m/\m<=s-x/\M (NB W aA lo P ax aH S n u1 u3 (hZ g vs0.length cap) ag vs0 x m base R rs)) (λv _=>s+1-(intOf v).toNat)
 case atStart=>exact⟨x+1,0,_,[],by go_num,rfl,yad,av⟩
 case round=>
  obtain⟨i,m,ag,rs,rfl,f,y,bb⟩:=hrel;clear av;by_cases fw:i<=s
  ·have ba:(0:Int)<=i:=xaa;have b2:(i:Int)<n:=xaa;have J:(i:Int)<=s:=xaa;have A:M _:=λW aT=>Hu W P ax aH S n R (BS.keep bb.o.bs aT) (bb.o.bk.keep aT) i (ih aM.o) aM.o rfl (e7.o i xaa);obtain⟨aq,K⟩:∃aq,aq=ox (gL vs0 x m) (vs0.getD i h7):=⟨_,rfl⟩
   rw[<-K]at A
   have U:M (∀W,Kept 0 0 _ W->BS _ P _ _ _ _ _ R _/\BK _ ax P aH S n _ _ _/\(W.setCell _ _).ownsRow _ 1 1 _ m _/\RulesL _ _ P ax _ x _ _/\Chg _ _ _/\lo<=(W.setCell ⟨aH,i,none⟩ (.bool aq)).heap.size):=λW aT=>by
    have h:=(bb.o.keep aT).mark aE.o aq (by rw[K,f])
    rw[<-f]at h
    exact⟨h.1,h.2.1,h.2.2.1,h.2.2.2.1,h.2.2.2.2,by have:=(bb.o.keep aT).sz;simpa using this⟩
   have q:=Q bb.o;have l:M (i=x+1+m/\m<=s-x):=⟨f,y⟩
   clear bb K f y;go_wp2_with fail;go_cut [] (λb4=>M (BS b4 P u1 u3 vs0 (dK vs0) base R (hZ g vs0.length cap)/\BK b4 ax P aH S n ag (gL vs0 x (m+1)) (List.replicate n (-1))/\b4.ownsRow lo 1 1 ag m rs/\RulesL b4 lo P ax vs0 x ag rs/\Chg (λb=>b=ax\/b=aH\/lo<=b) aA b4/\lo<=b4.heap.size))
   case first=>
    have a9:=q.o.bk.c1;go_region_held3 (λD=>D.cell? ⟨ax,1,none⟩=some (hZ aH n n)) (first|go_keep|(rw[dR (.inl (λe=>aE.o.dj.ka e.symm))];exact bj)) (first|(go_at_call 190;refine yai (A.o _ (dH _)) ?_;rintro e Z ⟨rfl,ad⟩;have ae:=(dH _).trans ad;have aW:=q.o.bk.keep ae;have bj:=aW.c1;have c:=BR.cell aW.ac i (ix aW.al);have r:=BR.free aW.ac i;clear aW))
    all_goals
     have bm:M _:=U.o _ ae
     clear ae ad U A
     go_wp2_with fail
     go_meet
     exact bm
   case rest=>
    have aF:=Q hcut;clear hcut U A q;obtain⟨aN,bx,rfl⟩:=jM aF.o.2.2.1;have aD:M _:=λW aT=>LH W P ax aH S n R (BS.keep aF.o.1 aT) (aF.o.2.1.keep aT) aM.o xaa i xaa (T.o i xaa).1 (T.o i xaa).2 (am.o i xaa) (O.o i xaa);have bI:=aF.o.2.1.c3;have az:m<=2000:=ih l.o
    have ah:=aF.o.2.2.2.2.2;have F:M (∀W,Kept 0 0 _ W->W.cell? _=some _/\W.ownsRow _ 1 1 _ m _):=λW aT=>⟨(aF.o.2.1.keep aT).c3,dW aF.o.2.2.1 aT⟩
    have a:M (∀W bn,Kept 0 0 _ W->W.grownBy bn _->bn.cell? _=some _/\bn.frozen? _=false):=λW bn aT aG=>by
     have b:=aF.o.2.1.keep aT
     have cd:¬(Value.slice _ m _).ownBlock=some ax:=λe=>ip ((dO aF.o.2.2.1 e).1) aE.o.k
     exact⟨((eD aG).cell b.lt cd).trans b.c3,((eD aG).frozen b.lt cd).trans (b.fr 3)⟩
    go_wp2_with fail
    go_region_law (first
     |((fail_if_success (exfalso;refine absurd o.size ?_));go_simp;go_wp2_with (first|(go_at_call 191;refine yai (aD.o _ (dH _)) ?_;rintro e b7 ⟨aI,af,G,b5,ap,c6,a8,bu,a7,rfl,aC,b3⟩;have o:=(dH _).trans b3;obtain⟨co,bf⟩:=F.o _ o;have au:=(F.o (b7.alloc (.cells #[.func (.func 204) #[] #[ge aI,ge af,ge G,ge b5]] 1)) (o.trans (dE 0 0 _ _))).1;have cc:M (b7.ownsRow _ 1 1 _ m _):=bf;have L:M ((b7.alloc (.cells #[xe aI af G b5] 1)).ownsRow _ 1 1 _ m _):=World.ownsRow.alloc bf _;clear bf aD)|fail))
     |(rw[h3 (by simp[Region.wanted])];refine wp_append_lies (b7.alloc (.cells #[xe _ _ _ _] 1)) (.tmp 49) (.tmp 53) _ rfl _ 1 _ _ 1 8 underlying267 X ch b6 ci rfl xab _ m _ ?_ L.o _ 1 1 _ ?_ rfl (cell_one_new _ _ _) ?_ xab ?_ ?_ ?_ _ rfl ?_;(first|rfl|simp[Act.eval]);(first|rfl|simp[Act.eval]);(intro u bd;cases bd with|head=>rfl|tail _ h=>cases h);exact yan (show m+1<=2001 by omega) xab;exact(show(m+1)*8<=140737488355328 by omega);exact yan (yan ah o.size) xac;intro g9 cap9 bn aB a0 bs cr;obtain⟨m3,aY⟩:=a.o _ _ (o.trans (dE 0 0 _ _)) a0))
    all_goals
     have bh:M _:=NB.push aF.o aE.o o (iv l.o.1 aC) aB a0 (bs.imp (λh=>h) (λe=>e.trans xac))
     have hD:IntKind.i64.wrap (i+1)=i+1:=by rw[IntKind.wrap_i64];omega
     have z:s+1-(i+1)<s+1-i:=xaa
     clear aB a0 bs cr m3 aY aC b3 o cc F a aF co au bI
     go_wp2_with fail
     go_roundw
     case rel=>exact⟨i+1,m+1,_,_,by go_num,ih l.o,ih l.o,bh⟩
     case measure=>simp[intOf];omega
  have B:m=s-x:=xaa;have q:=Q bb.o;have J:¬((i:Int)<=s):=xaa;clear bb f;go_wp2_with fail;go_ret;unfold NbO;have ak:=aE.o;refine⟨_,ax,aH,S,_,_,rfl,⟨q.o.bs,?_,?_,q.o.rl,(ib).chg,q.o.sz⟩,aE.o,?_,Chg.kept al.o q.o.ch (λb I=>?_)⟩
  ·rw[<-B];exact q.o.bk
  ·rw[<-B];exact q.o.row
  ·exact H.o
  have:=H.o;omega):Zp:=h
open cV in
theorem xh(w P){u1 u3 Y vs0 base}(R n s x)(h:BS w P u1 u3 vs0 (dK vs0) base R Y)(V:vs0.length=n)(ab:n<=2000)(ai:s<n)(ar:x<n)(bD:∀j,j<n->1<=(vs0.getD j h7).len/\(vs0.getD j h7).len<=1000)(be:∀j,j<n->0<=(vs0.getD j h7).op/\(vs0.getD j h7).op<=13)(cn:∀j,j<n->∀k,k<cnt (vs0.getD j h7).op->0<=fld (vs0.getD j h7) k/\fld (vs0.getD j h7) k<j)(bo:∀i,i<n->((vs0.getD i h7).op=9\/(vs0.getD i h7).op=11)->∃j:Nat,(vs0.getD i h7).a=(j:Int)/\j<vs0.length/\(vs0.getD j h7).len=laM vs0 i/\1<=laM vs0 i/\laM vs0 i<=1000):
  Calls prog 184 #[ge P,h0 s,h0 x] w λe D=>NbO w P n u1 u3 vs0 x (s-x) base R Y e D:=by
 obtain⟨bS,X,ch,b6,ci⟩:=info_parts LI;have aQ:=h.c1;obtain⟨g,cap,rfl,_,aJ,_,_⟩:=jX h.own xaa rfl;rw[V]at aQ;have t:=Q h;have aM:=Q V;have T:=Q bD;have am:=Q be;have e7:=Q cn;have O:=Q bo;have aj:M (∀b,R=some b->_):=λb I=>(dO h.own (it h.row I)).2;have aR:=yW n w.drew xaa;have an:M _:=BR.made w.drew n;clear h bD be cn bo aJ V;go_enter func184,ntmps184;go_upto_region 2 with fail;go_cut [8] (λp b4=>∃ax aH S,p=ge ax/\M (NB0 w b4 P n ax aH S))
 case first=>
  have aa:M _:=λW=>KD W n xaa;have bp:∀W,_:=λW=>yW n W xaa;clear aR
  first|(go_region_with (go_at_call 186;first
   |(refine yai (aa.o _) ?_;rintro e Z ⟨rfl,i1,ad⟩)
   |(refine yai (aa.o _) ?_;rintro e Z ⟨rfl,i1,ad⟩)))|fail
  ·have bm:M (NB0 w (Z.alloc (.cells #[ge P,hZ w.heap.size n n,hZ (w.heap.size+1) n n,.slice none 0 0] 269)) P n Z.heap.size w.heap.size (w.heap.size+1)):=by
    have ae:=(dH _).trans ad;have e:(w.alloc (.cells (madeCells #[.bool false] n) 4)).drew.heap.size=w.heap.size+1:=by show(w.alloc _).heap.size=_;simp
    rw[e]at i1;exact As w P n ((dE 0 0 w _).trans ae) (BR.keep (BR.made w n) ae yaa) i1 yac xaa xaa
   exact xhv
  have bm:M (NB0 w ((Z.alloc (.cells (madeCells #[.bool false] n) 4)).alloc (.cells #[ge P,hZ Z.heap.size n n,hZ w.heap.size n n,.slice none 0 0] 269)) P n (Z.heap.size+1) Z.heap.size w.heap.size):=by
   have ae:=(dH w).trans ad;have aL:=dE 0 0 Z (.cells (madeCells #[.bool false] n) 4);have aZ:IR _ w.heap.size _:=i1;have aV:=aZ.lt;have:=As w P n (ae.trans aL) (BR.made _ n) (IR.keep aZ aL yaa) ae.size yac xaa;have e:(Z.alloc (.cells (madeCells #[.bool false] n) 4)).heap.size=Z.heap.size+1:=by simp
   rw[e]at this;exact this
  exact xhv
 case rest=>
  obtain⟨ax,aH,S,rfl,bb⟩:=hcut;clear aR an;have ee:=t.o.lt;obtain⟨ew,bc,C⟩:=bb.o.lo_;have aE:M (NbC _ P ax aH S R):=⟨⟨by omega,by omega,by omega,bb.o.ne.1,bb.o.ne.2.1,bb.o.ne.2.2,λe=>ih (aj.o ax e),λe=>ih (aj.o aH e),λe=>ih (aj.o S e)⟩,ih bb.o.kp.size,bb.o.bk.lt,bb.o.bk.ac.lt,bb.o.bk.sp.lt,λb I=>ip (aj.o b I) bb.o.kp.size⟩
  have H:M (w.heap.size<=ax/\w.heap.size<=aH/\w.heap.size<=S/\w.heap.size<=wc.heap.size):=⟨ew,bc,C,bb.o.kp.size⟩
  have aS:=Q bb.o.kp
  have av:M (NB (wc.setCell ⟨aH,x,none⟩ (.bool true)) (wc.setCell ⟨aH,x,none⟩ (.bool true)) wc.heap.size P ax aH S n u1 u3 (hZ g vs0.length cap) (.slice none 0 0) vs0 x 0 base R []):=by
   refine⟨BS.setS (BS.keep t.o bb.o.kp) aE.o.dj.ap aE.o.dj.ra,?_,yau _ _,λj u bd=>by simp at bd,(ib).chg,by simp⟩;have:=bb.o.bk.setA aE.o.dj x true;rw[gL,aM.o];exact this
  have al:M _:=aS.o.new (d9 _ ⟨aH,x,none⟩ (.bool true) yab) bc;have a9:=bb.o.bk.c1;have c:=BR.cell bb.o.bk.ac x yaf;have r:=BR.free bb.o.bk.ac x;exact qdn
