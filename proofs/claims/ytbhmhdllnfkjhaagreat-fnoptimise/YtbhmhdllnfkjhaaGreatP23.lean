import Derived.Test.YtbhmhdllnfkjhaaGreatP21
import Derived.Test.YtbhmhdllnfkjhaaGreatP22
namespace Go.Proofs.Z
variable{Zp:Prop}
open Tryz Go.RowKit Flt
set_option maxRecDepth 1000000
set_option maxHeartbeats 0
section
attribute[local go_sem] eG eE eD kO
theorem J6(vs outs):kU vs outs=ja 0 vs outs:=by unfold ja;rw[hG rfl]
theorem J7(vs outs):(fU vs vs.length,outs)=ja 2 vs outs:=by unfold ja;rw[hF (by decide:¬(2:Int)=0),hG rfl]
theorem xL{p}(ae:p≠0)(J:p≠2)(vs outs):eqM p vs outs=ja p vs outs:=by unfold ja;rw[hF ae,hF J]
end
section
attribute[local go_sem] eG eE eD
variable{lo p hi d n g m1 base k bl b4 b2 m3 i T g9 bT cap9 c0 m:Nat}{cj bg dp cq:World}{af a b bV:Option Addr}{bH O ax u2 u1 X cw:Value}{xs:List Int}{o:Obj}{S:List Vl×List Int}{x:Int}
theorem bG.qbs(h:Zp:=by
 have HR:V _:=bw;have HK:V _:=aj.trans ah;have bP:V _:=f.i.keep (aj.trans ah) yaa;have bJ:V _:=f.v.keep (aj.trans ah) yaa;have q:V _:=f.o.keep (aj.trans ah) yaa;clear f bw aj ah;obtain⟨_,bd,aL,aJ⟩:=aA.o;go_enter func46,ntmps46;go_upto_region 2 with fail;generalize (w.alloc _).alloc _=ag at aA HR HK bP bJ q bd aL aJ⊢;have bu:V _:=P3 bJ.o;go_wp2_with (first|(at_builtin;refine mL _ rfl _ _ _ rfl ag.heap.size 60 _ _ 6 _ underlying24 hi a6 b8 b5 rfl xab rfl _ _ _ _ rfl ?c0 bu.o ?c2 ?c3 ?c4 ?c5 ?_))
 case c0=>rw[qB,bJ.o.len]
 case c2=>exact MD _
 case c3=>unfold maxLen;omega
 case c4=>omega
 case c5=>exact yad
 intro v' a7 y c;obtain⟨Y,d2,rfl⟩:=jp y;have aF:=mH c (λk N=>by cases N) hL yad;have ad:V _:=y;have bR:V _:=aF;clear y c bu bd aL aJ aF;obtain⟨_,bd,aL,aJ⟩:=G0.keep aA.o bR.o;have an:=IS.keep bP.o bR.o yaa;have ep:V _:=an;have s:V _:=IS.keep q.o bR.o yaa;have b7:V _:=G0.keep aA.o bR.o;have H:V _:=RB.keep HR.o bR.o;have bZ:V (w.heap.size+1<ag.heap.size/\w.heap.size<=ag.heap.size/\ag.heap.size<=a7.heap.size):=⟨HR.o.sz,HK.o.size,bR.o.size⟩
 clear an aA HR bP bJ q;go_wp2_with fail
 go_region_held3 (λI=>I.cell? ⟨w.heap.size,0,none⟩=some (.slice O n1 c1)/\I.cell? ⟨w.heap.size,2,none⟩=some (.slice Z n3 c3)) (first|go_keep|(simp only[Ft _ _ _ _ _ _ _ cf];exact⟨bm,aW⟩))
  (first
   |(go_at_call 76;refine yaj (oI _ _ _ _ _ _ _ a9 (IS.keep s.o j yaa)) ?_;rintro e br ⟨a3,d3,rfl,a5,bS⟩;have l:=Kept.trans j bS;obtain⟨_,bm,ay,aW⟩:=G0.keep b7.o l;obtain⟨_,bf,aP,aY,bI,bB,bE⟩:=RB.keep H.o l;have cf:w.heap.size≠w.heap.size+1:=by omega)
   |(go_at_call 76;refine yaj (oI (a7.drewN 1) _ _ _ _ _ _ b1 (IS.keep ep.o (eK 0 0 _ 1) yaa)) ?_;rintro e bj ⟨a1,d1,rfl,ch,ca⟩;have j:=Kept.trans (eK 0 0 _ 1) ca;obtain⟨_,aT,ao,aG⟩:=G0.keep b7.o j))
 go_wp2_with fail;obtain⟨bb,aM,aQ⟩:=eZ _ _ _ _ _ bf aP aY (.slice a1 n1 d1) (.slice Y T d2) (.slice a3 n3 d3);have K:=fg br (w.heap.size+1) (.slice a1 n1 d1) (.slice Y T d2) (.slice a3 n3 d3);have z:(a7.drewN 1).heap.size=a7.heap.size:=rfl;have r:=ca.size;have aa:=bZ.o
 have au:∀{b e size n:Nat}{v:Value}{xs:List _}{W:World},W.ownsRow b e _ v n _->ag.heap.size<=b->Kept 0 0 W _->(((br.setCell _ _).setCell _ _).setCell _ _).ownsRow w.heap.size e size v n xs:=λh hb k=>
  je (fX (eR h k) K (λg aR=>hM ((eH h aR).1))) xaa
 refine yaz (v:=eV a1 n1 d1 Y T d2 a3 n3 d3) (by simp[results,results46,go_sem,bb,aM,aQ]) rfl ⟨a1,d1,Y,d2,a3,d3,rfl,au ch xaa bS,au ad.o yad l,au a5 xaa hL,⟨mW ad.o ch xaa,mW ad.o a5 xaa,mW ch a5 yad⟩,Kept.new ((HK.o.trans bR.o).trans l) K xaa⟩):Zp:=h
open bG in
theorem qV(w O ax Z n1 c1 T c2 n3 c3 ins vs outs)(f:GS w O n1 ax T Z n3 ins vs outs)(b1:n1<=1000000)(ce:T<=1000000)(a9:n3<=1000000):
  Calls prog 46 #[eV O n1 c1 ax T c2 Z n3 c3] w λe I=>∃a1 d1 Y d2 a3 d3,e=.returned (eV a1 n1 d1 Y T d2 a3 n3 d3)/\I.ownsRow w.heap.size 3 1 (.slice a1 n1 d1) n1 (ins.map (Value.int .i64))/\I.ownsRow w.heap.size 60 6 (.slice Y T d2) T (fK vs)/\I.ownsRow w.heap.size 3 1 (.slice a3 n3 d3) n3 (outs.map (Value.int .i64))/\
   (Apart (.slice Y T d2) (.slice a1 n1 d1)/\Apart (.slice Y T d2) (.slice a3 n3 d3)/\Apart (.slice a1 n1 d1) (.slice a3 n3 d3))/\Kept 0 0 w I:=by
 obtain⟨b3,hi,a6,b8,b5⟩:=info_parts sc;have aj:=ez 0 0 w (eW O n1 c1 ax T c2 Z n3 c3);have ah:=ez 0 0 (w.alloc (eW O n1 c1 ax T c2 Z n3 c3)) fj;have aA:V _:=(ft w _ _ _).keep ah;exact qbr
theorem t.qaf(h:Zp:=by
 exact qea):Zp:=h
theorem t.qeb(h:Zp:=by
 rw[go.o]at aX;have bc:vs.length<=1000000:=hM b6.o
 by_cases gy:s<x
 all_goals
  (first|(have bF:(s:Int)<x:=by omega)|(have bF:¬((s:Int)<x):=by omega))
  go_upto_region 5 with fail
  clear a8 aV p2 bG f1 f2 Q
  generalize ((ag.setCell _ _).setCell _ _).setCell _ _=di at HL bn⊢
  rw[<-b6.o]at HL⊢
  have aT:=HL.o.g.c0
  have ao:=HL.o.g.c1
  have aG:=HL.o.g.c2
  go_cut [] (λcl=>∃aB cap',V (LK w cl O n1 d1 Z n3 d3 ins outs (vs++[eL 1 b8 0 0 0]) aO.heap.size (some aB) (some ⟨aB,0,none⟩) cap'))
  case first=>
   go_region_with (first
    |(go_at_call 38;refine yaj (LK.call HL.o ((eF _).trans aj) _ bc) ?_;rintro e ag ⟨aB,cap',rfl,⟨_,bm⟩,⟨_,ay⟩,⟨_,aW⟩,ae,bP⟩;have bv:=ae 0;have bA:=ae 1;have bM:=ae 2;have cJ:V _:=bP.o.1;clear ae bP)
    |(go_at_call 65;refine yaj (pw _ _) ?_;rintro e aO ⟨rfl,aj⟩;have a8:=(LK.keep HL.o ((eF _).trans aj)).g.c0;have aV:=(LK.keep HL.o ((eF _).trans aj)).g.c1;have p2:=(LK.keep HL.o ((eF _).trans aj)).g.c2))
   all_goals (go_wp2_with fail;go_meet;exact⟨_,_,cJ⟩)
  case rest=>
   obtain⟨aB,cap',bP⟩:=hcut
   have ck:(vs++[eL 1 b8 0 0 0]).length=vs.length+1:=by simp
   generalize aH:vs++[eL 1 _ 0 0 0]=H at bP aX ck
   clear aT ao aG aH HL
   have aT:=bP.o.g.c0
   have ao:=bP.o.g.c1
   have aG:=bP.o.g.c2
   obtain⟨_,bf,aP,aY,bI,bB,bE⟩:=bP.o.b
   have aK:V _:=λW=>jf W O (some ⟨aB,0,none⟩) Z n1 d1 _ cap' n3 d3 (show H.length<=1000000 by have:=b6.o;have:=ck;omega)
   rw[show(H.length:Int)-1=(vs.length:Nat) by omega]at aK
   clear ck
   go_wp2_with fail
   go_region_with (first
    |(go_at_call 41;refine yaj (aK.o _) ?_;rintro e a7 ⟨rfl,aF⟩;clear bf aP aY bI bB bE;have bd:=(bP.o.keep ((eF _).trans aF)).g.c0;have aL:=(bP.o.keep ((eF _).trans aF)).g.c1;have aJ:=(bP.o.keep ((eF _).trans aF)).g.c2;obtain⟨_,bf,aP,aY,bI,bB,bE⟩:=(bP.o.keep ((eF _).trans aF)).b))
   all_goals
    have ei:V _:=bP.o.a4
    have R1:V _:=bP.o.fin ((eF _).trans aF)
    obtain⟨bb,aM,aQ⟩:=eZ _ _ _ _ _ bf aP aY (.slice O n1 d1) (hC aB H.length cap') (.slice Z n3 d3)
    go_wp2_with fail
    refine yaz (v:=.tuple #[eV O n1 d1 (some ⟨aB,0,none⟩) H.length cap' Z n3 d3,hD vs.length]) (by simp[results,results159,go_sem,bb,aM,aQ]) rfl ⟨?_,R1.o.2⟩
    rw[aX.o]
    exact⟨_,_,_,_,_,_,rfl,R1.o.1.1,R1.o.1.2.1,R1.o.1.2.2,ei.o⟩):Zp:=h
open t in
theorem xM(w bh P ap n1 c1 T c2 n3 c3 s x ins vs outs)(f:GS w bh n1 (some ⟨ap,0,none⟩) T P n3 ins vs outs)(c8:VA w ap T vs)(b1:n1<=1000000)(ce:T<=2000)(a9:n3<=1000000)(bN:(List.range T).all (okV ins vs)=true)(cN:fd vs<=50000)(ar:s<T)(ak:x<T)(F:(jA vs x (s-x)).getD s false=false):
  Calls prog 159 #[eV bh n1 c1 (some ⟨ap,0,none⟩) T c2 P n3 c3,hD s,hD x] w λe I=>vO w I n1 n3 ins outs (grM vs s x) e/\Kept 0 0 w I:=by
 have aX:V (grM vs s x=(vs++[eL 1 (vs.getD x hI).len 0 0 0],(vs.length:Int))):=by
  show _=_;unfold grM;rw[hF (by rw[F];simp)]
 exact qdn
theorem GP{vs outs b}(hb:(ndG outs (ndS vs outs k) (vs.length-1-k)).getD (vs.length-1-k) false=b):ndS vs outs (k+1)=if b=true then ik (ndG outs (ndS vs outs k) (vs.length-1-k)) (eQ (vs.getD (vs.length-1-k) hI))else ndG outs (ndS vs outs k) (vs.length-1-k):=by
 rw[ndS,hb]
theorem zH{F s}(h:F.getD i false=true):(ik F s).getD i false=true:=by
 have hi:i<F.length:=by
  rcases Nat.lt_or_ge i F.length with c|c
  ·exact c
  exact xjg
 rw[jK _ _ _ hi,h,Bool.true_or]
def SPo(w:World)(n1 n3:Nat)(ins:List Int)(M:List Vl×List Int)(e:Ending)(w':World):Prop:=
 ∃a1 d1 a2 n2 d2 a3 d3 us,e=.returned (eV a1 n1 d1 a2 n2 d2 a3 n3 d3)/\GS w' a1 n1 a2 n2 a3 n3 ins us M.2/\Lk us M.1/\Kept 0 0 w w'
structure DS(W w6:World)(T O n2 base:Nat)(u1:Value)(S:List Vl×List Int)(vv:Value):Prop where
 tq:IR W T S.2
 tl:S.2.length=n2
 ob:RB W O u1 vv (.slice none 0 0)
 own:W.ownsRow base 60 6 vv S.1.length (fK S.1)
 ch:Chg (λb=>b=T\/b=O\/base<=b) w6 W
 bz:base<=W.heap.size
theorem RB.put1{W}(t:RB W p bH O ax)(v):RB (W.setCell ⟨p,1,none⟩ v) p bH v ax:=
 ⟨by simpa using t.sz,by rw[eM _ _ _ _ _ _ (.inr xaa)];exact t.q0,fD _ _ _ _ _ t.q1,by rw[eM _ _ _ _ _ _ (.inr xaa)];exact t.q2,by simp[t.f0],by simp[t.f1],by simp[t.f2]⟩
theorem RB.put2{W}(t:RB W p bH O ax)(v):RB (W.setCell ⟨p,2,none⟩ v) p bH O v:=
 ⟨by simpa using t.sz,by rw[eM _ _ _ _ _ _ (.inr xaa)];exact t.q0,by rw[eM _ _ _ _ _ _ (.inr xaa)];exact t.q1,fD _ _ _ _ _ t.q2,by simp[t.f0],by simp[t.f1],by simp[t.f2]⟩
theorem cP.qcv(h:Zp:=by
 exact(((f.ob.keepC (s.chg1 (S:=λb=>b=bl) rfl) (Ne.symm ap)).keep bU).keep bx).keepC bD (λc=>hM (C _ c))):Zp:=h
open cP in
theorem DS.mid{W}(f:DS W cq bl b4 T base u1 S cw)(bU:Kept 0 0 (W.setCell ⟨bl,i,none⟩ (hD x)) cj)(al:b4<base)(ap:bl≠b4)(aR:((cj.alloc o).drewN m).grownBy bg cw.ownBlock):RB bg b4 u1 cw (.slice none 0 0):=by
 exact qcu
theorem cQ.qcv(h:Zp:=by
 have j:=DS.mid f bU al ap aR;have e:=eP (lo:=b4) (hi:=b4+1) bg ⟨b4,1,none⟩ (hC g9 (S.1.length+1) cap9) yac;have aP:=(((f.tq.set i x).keep bU yaa).keep bx yaa).keepC bD (λc=>hM (C _ c));have h:=eH aZ (k:=g9) rfl;refine⟨aP.keep e xaa,by simp[f.tl],j.put1 _,?_,?_,?_⟩
 ·rw[yal,List.length_singleton,kC,mV];exact eJ aZ (λc=>by simp[Value.ownBlock]at c;omega)
 ·exact Chg.trans f.ch (Chg.trans (s.chg1 (.inl rfl)) (Chg.trans bU.chg (Chg.trans bx.chg (Chg.trans (bD.mono λb _ c=>.inr (.inr (C b c))) (e.chg1 (.inr (.inl rfl)))))))
 have B:=f.bz;have h3:=s.size;have a0:=bU.size;have bz:=bx.size;have bP:=bD.size;have aS:=e.size;omega):Zp:=h
open cQ in
theorem DS.next{W nv}(f:DS W cq bl b4 T base u1 S cw)(bU:Kept 0 0 (W.setCell ⟨bl,i,none⟩ (hD x)) cj)(bh:bl<base)(al:b4<base)(ap:bl≠b4)
  (aZ:bg.ownsRow base 60 6 (hC g9 (S.1.length+1) cap9) (S.1.length+1) (fK S.1++nv.cells)) (aR:((cj.alloc o).drewN m).grownBy bg cw.ownBlock):
  DS (bg.setCell ⟨b4,1,none⟩ (hC g9 (S.1.length+1) cap9)) cq bl b4 T base u1 (S.1++[nv],S.2.set i x) (hC g9 (S.1.length+1) cap9):=by
 exact qcu
structure DT(W wE:World)(O base k:Nat)(u1 u2 ov:Value)(xs:List Int):Prop where
 ob:RB W O u1 u2 ov
 own:W.ownsRow base 3 1 ov k (xs.map (Value.int .i64))
 ch:Chg (λb=>b=O\/base<=b) wE W
 bz:base<=W.heap.size
theorem DT.mid{W}(f:DT W dp b4 base k u1 u2 X xs)(al:b4<base)(aR:((W.alloc o).drewN m).grownBy bg X.ownBlock):RB bg b4 u1 u2 X:=by
 have bx:=(ez 0 0 W o).trans (eK 0 0 _ m);exact(f.ob.keep bx).keepC (ii aR) (λc=>hM ((eH f.own c).1))
theorem DT.next{W}(f:DT W dp b4 base k u1 u2 X xs)(al:b4<base)(aZ:bg.ownsRow base 3 1 (hC g9 (k+1) cap9) (k+1) (xs.map (Value.int .i64)++[hD x]))(aR:((W.alloc o).drewN m).grownBy bg X.ownBlock):
  DT (bg.setCell ⟨b4,2,none⟩ (hC g9 (k+1) cap9)) dp b4 base (k+1) u1 u2 (hC g9 (k+1) cap9) (xs++[x]):=by
 have bx:=(ez 0 0 W o).trans (eK 0 0 _ m);have bD:=ii aR;have C:∀b,X.ownBlock=some b->_:=λb hb=>(eH f.own hb).1;have e:=eP (lo:=b4) (hi:=b4+1) bg ⟨b4,2,none⟩ (hC g9 (k+1) cap9) yac;have h:=eH aZ (k:=g9) rfl;refine⟨(DT.mid f al aR).put2 _,?_,?_,?_⟩
 ·rw[List.map_append];exact eJ aZ (λc=>by simp[Value.ownBlock]at c;omega)
 ·exact Chg.trans f.ch (Chg.trans bx.chg (Chg.trans (bD.mono λb _ c=>.inr (C b c)) (e.chg1 (.inl rfl))))
 have B:=f.bz;have bz:=bx.size;have bP:=bD.size;have aS:=e.size;omega
theorem v.qah(h:Zp:=by
 rw[bi]at C;have fu:((w.alloc (eW O n1 c1 ax T c2 Z n3 c3)).alloc fj).heap.size=w.heap.size+1+1:=by simp
 have aq:=AH T ((w.alloc (eW O n1 c1 ax T c2 Z n3 c3)).alloc fj) xaa;have bw:=BR.made ((w.alloc (eW O n1 c1 ax T c2 Z n3 c3)).alloc fj) T;have ah:=ez 0 0 ((w.alloc (eW O n1 c1 ax T c2 Z n3 c3)).alloc fj) (.cells (madeCells #[.bool false] T) 4);rw[fu]at aq bw;have aA:V _:=(aS.keep aj).keep ah;have HR:V _:=C.keep ah;have aI:V _:=f.keep ((an.trans aj).trans ah);have ae:V (VS w 0 _ _ _ _/\IS w 0 _ _ _ _/\IS w 0 _ _ _ _):=⟨f.v,f.i,f.o⟩
 have HK:V _:=(an.trans aj).trans ah;have fo:ndS vs outs 0=List.replicate T false:=by rw[ndS,cu]
 rw[<-fo]at bw;have bu:V _:=bw;have bJ:V ((((w.alloc (eW O n1 c1 ax T c2 Z n3 c3)).alloc fj).alloc (.cells (madeCells #[.bool false] T) 4)).heap.size=w.heap.size+1+1+1):=by show _=_;simp
 clear f bN ck cz cA aD al cu cH cK C bi fu an aj ah bw fo;obtain⟨_,bd,aL,aJ⟩:=aS;obtain⟨_,a8,aV,p2⟩:=aA.o;go_enter func77,ntmps77;go_wp2_with fail;clear bd aL aJ a8 aV p2 aq;generalize ((w.alloc _).alloc _).alloc _=aO at aA HR aI HK bu bJ⊢;go_loopw [5] (λx W=>∃j:Nat,j<=T/\x=hD ((T:Int)-1-j)/\V (BR W (w.heap.size+1+1) (ndS vs outs j))/\V (Kept (w.heap.size+1+1) (w.heap.size+1+1+1) aO W)) (λx _=>(intOf x+1).toNat)
 case atStart=>exact⟨0,yae,by go_num,bu,Kept.refl _ _ _⟩
 case round=>
  obtain⟨j,hj,rfl,bp,aw⟩:=hrel;clear bu;by_cases aC:j<T
  ·obtain⟨i,hi⟩:∃i:Nat,i=T-1-j:=⟨_,rfl⟩
   have bf:(T:Int)-1-j=i:=xaa;have r:i<T:=xaa;rw[bf];have cG:V _:=hi;have bP:V _:=bf;clear hi bf;have ct:(ndS vs outs j).length=T:=by rw[pu];exact HL.o.1
   have b6:V _:=ct;have cb:=bp.o.cell i xaa;have bk:=bp.o.free i;have bX:=i6 (bL.o i r);have cI:=nD (bL.o i r)
   have cD:V (∀W',Kept (w.heap.size+1+1) (w.heap.size+1+1+1) _ W'->∃g off,ax=some _/\g<W'.heap.size/\g<w.heap.size/\At _ g _ _):=λW' l=>by
    obtain⟨g,off,e,aN,a2,_,bq⟩:=(VS.keep (VS.keep ae.o.1 HK.o yaa) l (.inl xaa)).at_idx r
    exact⟨g,off,e,aN,a2,bq⟩
   have e9:V (∀W',Kept (w.heap.size+1+1) (w.heap.size+1+1+1) _ W'->Calls _ _ _ _ _):=λW' l=>
    F3 _ O ax _ n1 c1 T c2 _ c3 i _ _ _ ((ae.o.2.2.keep HK.o yaa).keep l (.inl xaa)) xaa
   have cQ:V _:=G0.keepT aA.o aw.o xaa
   have co:V (ndS vs outs (j+1)=if (ndG outs (ndS vs outs j) i).getD i false=true then ik (ndG outs (ndS vs outs j) i) (eQ (vs.getD i hI))else ndG outs (ndS vs outs j) i):=by
    show _=_;have:=GP (vs:=vs) (outs:=outs) (k:=j) rfl;rw[HL.o.1,<-cG.o]at this;exact this
   have eo:V ((ndG _ (ndS vs outs j) i).getD i _=((ndS _ _ j).getD i _||isO outs i)/\ndG outs _ i=(ndS vs outs j).set i _):=⟨by unfold ndG;rw[wU _ _ _ _ xaa,hG rfl],rfl⟩
   generalize fL:ndS _ _ j=F at bp cb b6 co eo ct;clear fL ct;obtain⟨_,a8,aV,p2⟩:=cQ.o;go_upto_region 6 with fail;go_cut [32] (λc cl=>V (BR cl (w.heap.size+1+1) (ndG outs F i))/\V (Kept (w.heap.size+1+1) (w.heap.size+1+1+1) aO cl))
   case first=>
    cases hb:F.getD i false
    ·rw[hb]at cb eo;go_wp2_with fail;refine yaj (e9.o _ aw.o) ?_;rintro e ag ⟨rfl,ah⟩;have R:=BR.keep bp.o ah yaa;have a7:=R.cell i (hO b6.o r);have f4:=R.free i
     have R1:V (BR (ag.setCell ⟨w.heap.size+1+1,i,none⟩ (.bool (isO outs i))) (w.heap.size+1+1) (ndG outs F i)):=by
      have:=BR.set R i (isO outs i);show BR _ _ _;rw[eo.o.2];exact this
     have R2:V _:=Kept.trans (Kept.trans aw.o (ah.mono λb _ c=>by omega)) (eP _ ⟨_,i,none⟩ (.bool (isO outs i)) yac);generalize F.getD i _=z at a7;clear ah R bp aw;go_wp2_with fail;go_meet;exact⟨R1,R2⟩
    rw[hb]at cb eo
    have R1:V (BR (wr.setCell ⟨w.heap.size+1+1,i,none⟩ (.bool true)) (w.heap.size+1+1) (ndG outs F i)):=by
     have:=BR.set bp.o i true;show BR _ _ _;rw[eo.o.2];exact this
    have R2:V _:=Kept.trans aw.o (eP _ ⟨_,i,none⟩ (.bool true) yac);clear bp aw;go_wp2_with fail;go_meet;exact⟨R1,R2⟩
   case rest=>
    obtain⟨R,P⟩:=hcut;clear bp aw eo e9 cb bk a8 aV p2 cQ;have e6:V ((ndG outs F i).length=T):=by show _=_;unfold ndG;rw[List.length_set];exact b6.o
    generalize fM:ndG _ F i=s at R co e6;clear fM b6;generalize el:vs.getD i _=v at cD co bX cI;clear el;have cC:V _:=bX;have ca:V _:=B4 _ cI.1 cI.2;have ad:=f9 v.op;clear bX cI;go_wp2_with fail;go_loopw [6] (λx W=>∃q:Nat,q<=cnt v.op/\x=hD q/\V (q=0\/s.getD i false=true)/\V (BR W (w.heap.size+1+1) (ik s ((eQ v).take q)))/\V (Kept (w.heap.size+1+1) (w.heap.size+1+1+1) aO W)) (λx _=>cnt v.op-(intOf x).toNat)
    case atStart=>exact⟨0,yae,rfl,.inl rfl,R,P⟩
    case round=>
     obtain⟨q,am,rfl,aU,bp,aw⟩:=hrel;clear R P;obtain⟨g,off,rfl,aR,eA,be⟩:=cD.o _ aw.o;obtain⟨bb,aM,aQ,bY,cg,cn⟩:=be;obtain⟨_,a8,aV,p2⟩:=G0.keepT aA.o aw.o xaa;have eC:(ik s ((eQ v).take q)).length=T:=by rw[lg];exact e6.o
     by_cases aX:q<cnt v.op
     ·cases hb:s.getD i false
      ·have d4:q=0:=by
        rcases aU.o with c|c
        ·exact c
        rw[hb]at c;cases c
       subst d4;have cb:=bp.o.cell i xaa;rw[List.take_zero]at cb;have bc:ik _ []=s:=rfl;rw[bc,hb]at cb
       have R1:V (BR wr (w.heap.size+1+1) (ndS vs outs (j+1))):=by
        show BR _ _ _;rw[co.o,hb,hF xac];exact bp.o
       have R2:V _:=aw.o;clear bp aw aU eC hb bc;exact xej
      have cb:=bp.o.cell i xaa;rw[zH hb]at cb;clear hb;have bC:=gY (by rw[iz];exact aX);have aB:=cC.o _ bC;rw[rB v aX]at aB;obtain⟨m,em,aq⟩:∃m:Nat,fld v q=m/\m<T:=⟨(fld v q).toNat,by omega,by omega⟩
      have c7:V _:=λW=>by
       have:=lW W v q xaa
       rw[em]at this
       exact this
      go_wp2_with (first|(go_at_call 48;refine yaj (ca.o _) ?_;rintro e bg ⟨rfl,rfl⟩)|fail);refine yaj (c7.o _) ?_;rintro e bg ⟨rfl,cB⟩;have ed:=BR.keep bp.o cB yaa;have c2':=ed.cell m xaa;have cF:=ed.free m
      have R1:V (BR (bg.setCell ⟨w.heap.size+1+1,m,none⟩ (.bool true)) (w.heap.size+1+1) (ik s ((eQ v).take (q+1)))):=by
       have:=BR.set ed m true;show BR _ _ _;rw[oF _ _ (by rw[iz];exact aX),rB v aX,em,Int.toNat_natCast];exact this
      have R2:V _:=Kept.trans (Kept.trans aw.o (cB.mono λb _ c=>by omega)) (eP _ ⟨_,m,none⟩ (.bool true) yac);generalize (ik s _).getD m _=z at c2';clear bp aw aU eC bC aB em cB ed cb bb aM aQ bY cg cn a8 aV p2;go_wp2;go_roundw;exact⟨q+1,by omega,by go_num,.inr trivial,R1,R2⟩;simp[intOf];omega
     obtain rfl:q=cnt v.op:=xaa
     have R1:V (BR wr (w.heap.size+1+1) (ndS vs outs (j+1))):=by
      have B:=bp.o;rw[yap (by rw[iz];omega)]at B;show BR _ _ _;rw[co.o];split
      ·exact B
      rename_i cf;rcases aU.o with c|c
      ·have:=List.length_eq_zero_iff.1 (by rw[iz];exact c);rw[this]at B;exact B
      exact absurd c cf
     have R2:V _:=aw.o;clear bp aw aU eC;exact xej
  obtain rfl:j=T:=xaa;have ak:(j:Int)-1-j=-1:=xaa;rw[ak];clear ak
  have ea:V (BR wr (w.heap.size+1+1) (ndI vs outs j)):=by
   show BR _ _ _;have e:=OV _ _ fz.o;rw[HL.o.1]at e;rw[<-e];exact bp.o
  have bR:V _:=HK.o.new aw.o xaa;have b7:V _:=G0.keepT aA.o aw.o xaa;have H:V _:=RB.keepC HR.o (aw.o.chg1 rfl) xaa;have cU:V (w.heap.size+1+1+1<=wr.heap.size):=by have B:=aw.o.size;have J:=bJ.o;show _<=_;omega
  clear bp aw aA HR aI HK;have aq:=rx j wr xaa;have bh:=IR.made wr j;have aF:=ez 0 0 wr (.cells (madeCells #[hD 0] j) 3);have ei:V _:=oI _ _ _ _ _ c1 _ xaa (IS.keep ae.o.2.1 (bR.o.trans aF) yaa);have ev:V _:=bh;have b0:V _:=bR.o.trans aF;have bK:V _:=b7.o.keep aF;have ar:V _:=H.o.keep aF;have ep:V _:=BR.keep ea.o aF yaa;obtain⟨_,a8,aV,p2⟩:=bK.o;clear aF bh bR b7 H ea;go_wp2_with fail;clear a8 aV p2 aq;have av:V ((wr.alloc (.cells (madeCells #[hD 0] j) 3)).heap.size=wr.heap.size+1):=by show _=_;simp
  generalize wr.alloc _=bj at ei ev b0 bK ar ep av⊢;refine yaj ei.o ?_;rintro e br ⟨a1,d1,rfl,ch,bS⟩;have bZ:=ez 0 0 br (eW a1 n1 d1 none 0 0 none 0 0);have et:V _:=rL br (.slice a1 n1 d1) (.slice none 0 0) (.slice none 0 0);have ew:V _:=IR.keep ev.o (bS.trans bZ) yaa;have bo:V _:=b0.o.trans (bS.trans bZ);have cx:V _:=bK.o.keep (bS.trans bZ);have eu:V _:=ar.o.keep (bS.trans bZ);have er:V _:=BR.keep ep.o (bS.trans bZ) yaa;have ek:V _:=eR ch bZ;have en:V (∀b,(Value.slice _ _ _).ownBlock=some b->_):=λb hb=>eH ch hb;have cM:V (wr.heap.size+1<=br.heap.size/\(br.alloc (eW a1 n1 d1 none 0 0 none 0 0)).heap.size=br.heap.size+1/\bj.heap.size=wr.heap.size+1):=⟨hN bS.size av.o,by simp,av.o⟩
  clear bS bZ ch ei ev b0 bK ar ep av;go_wp2_with fail;generalize br.alloc _=cq at et ew bo cx eu er ek cM⊢
  have ej:V (DS _ _ _ _ j _ _ (gI (ndI vs outs j) _ 0) _):=
   ⟨by rw[gI,HL.o.1];exact ew.o,by rw[gI,HL.o.1];simp,et.o,yaw _ _ _ _,Chg.refl _ _,yad⟩
  clear et ew;have ey:V (w.heap.size+1+1+1<=wr.heap.size/\wr.heap.size+1<=br.heap.size/\cq.heap.size=br.heap.size+1/\bj.heap.size=wr.heap.size+1):=⟨cU.o,cM.o⟩
  clear cU cM;generalize wr.heap.size=bl at ej ey⊢;go_loopw [9] (λx W=>∃(i:Nat) (cw:Value),i<=j/\x=hD i/\V (DS W cq bl br.heap.size j cq.heap.size (.slice a1 n1 d1) (gI (ndI vs outs j) vs i) cw)) (λx _=>j-(intOf x).toNat)
  case atStart=>exact⟨0,_,yae,rfl,ej⟩
  case round=>
   obtain⟨i,cw,hi,rfl,a5⟩:=hrel;clear ej;by_cases aC:i<j
   ·have cV:=a5.o.ch.size;have cR:=ey.o;obtain⟨g,off,rfl,aR,eA,_,be⟩:=(VS.keepC (VS.keep ae.o.1 bo.o yaa) a5.o.ch (λg _ J=>by omega)).at_idx aC;have bX:=i6 (bL.o i aC);have cI:=nD (bL.o i aC);have Y:=BR.keepC er.o a5.o.ch xaa;have c8:(ndI vs outs j).length=j:=by rw[mG];exact HL.o.1
    have cb:=Y.cell i xaa;have cJ:V _:=G0.keepC cx.o a5.o.ch xaa;have Q:=oO (ndI vs outs j) vs i;obtain⟨_,bI,bB,bE,c9,dd,dg⟩:=a5.o.ob;obtain⟨_,a8,aV,p2⟩:=cJ.o;cases hb:(ndI vs outs j).getD i false
    ·have HE:V (DS wr cq bl br.heap.size j cq.heap.size (.slice a1 n1 d1) (gI (ndI vs outs j) vs (i+1)) cw):=by show DS _ _ _ _ _ _ _ _ _;rw[uj hb];exact a5.o
     rw[hb]at cb;clear hb c8 Q bX Y a5;go_wp2;go_roundw;exact⟨i+1,cw,by omega,by go_num,HE⟩;simp[intOf];omega
    rw[hb]at cb;have HE:V _:=Cb (vs:=vs) hb;generalize aD:vs.getD i _=v at be HE bX cI;generalize aZ:gI _ _ i=S at a5 HE Q;have aP:V _:=a5.o.tl;have cr:=IR.cell a5.o.tq i (hO aP.o aC);have di:=IR.free a5.o.tq i;generalize S.2.getD i 0=cW at cr;obtain⟨cN,bx,rfl⟩:=jp a5.o.own
    have ab:V (∀W,Kept 0 0 _ W->_):=λW l=>
     Fu W v _ _ _ j j _ (IR.isAt (IR.keep (IR.set a5.o.tq i (S.1.length:Nat)) l yaa) (by rw[List.length_set];exact a5.o.tl)) cI (λo h=>hM (bX o h))
    generalize rnm _ v=nv at HE ab;have dv:S.1.length<=2000:=xaa;have bW:=eP (lo:=bl) (hi:=bl+1) wr ⟨bl,i,none⟩ (hD (S.1.length:Nat)) yac;have t:V _:=At.keep be aR bW xaa;have eg:V _:=RB.keepC a5.o.ob (bW.chg1 rfl) xaa;have fc:V _:=G0.keepT cJ.o bW xaa;have fa:V _:=eJ (P:=bl) (o:=i) (u:=hD (S.1.length:Nat)) a5.o.own (λc=>hM ((eH a5.o.own c).1));have cy:V _:=a5.o;have f5:bl≠w.heap.size:=xaa;have ap:bl≠br.heap.size:=xaa;have f6:bl≠g:=xaa;have ef:=aR;obtain⟨bb,aM,aQ,bY,cg,cn⟩:=be;have e7:V (∀cj bg o m,Kept 0 0 (wr.setCell ⟨bl,i,_⟩ (.int _ (S.1.length:Nat))) cj->((cj.alloc o).drewN m).grownBy bg _->_):=λcj bg o m bU a0=>DS.mid cy.o bU xaa ap a0;have e8:V (∀cj bg o m g9 cap9,Kept 0 0 (wr.setCell ⟨bl,i,_⟩ (.int _ (S.1.length:Nat))) cj->bg.ownsRow cq.heap.size 60 6 (hC g9 (S.1.length+1) cap9) (S.1.length+1) (fK S.1++nv.cells)->((cj.alloc o).drewN m).grownBy bg _->_):=λcj bg o m g9 cap9 bU G a0=>DS.next cy.o bU xaa xaa ap G a0;have aY:V (cq.heap.size<=(wr.setCell ⟨bl,i,none⟩ (hD (S.1.length:Nat))).heap.size):=by show _<=_;simp;exact cy.o.bz
    go_wp2_with fail;clear bb aM aQ bY cg cn cr di cb a8 aV p2 bI bB bE c9 dd dg bW;generalize wr.setCell ⟨bl,i,_⟩ _=az at ab t eg fc fa e7 e8 aY⊢;have f7:g<az.heap.size:=hM aY.o
    clear a5 cy aZ aD hb c8 Q bX Y cI cJ ef aR;obtain⟨bb,aM,aQ,bY,cg,cn⟩:=t.o;obtain⟨_,bI,bB,bE,c9,dd,dg⟩:=eg.o;obtain⟨_,a8,aV,p2⟩:=fc.o
    go_region_law (first
     |(go_simp;go_at_call 126;refine yaj (ab.o _ (eF _)) ?_;rintro e ci ⟨rfl,bU⟩;have aK:=(eF _).trans bU;obtain⟨_,bm,ay,aW,bv,bA,bM⟩:=RB.keep eg.o aK)
     |(refine step_append_lies _ rfl _ _ _ rfl _ 60 _ _ 6 _ underlying24 eB a6 b8 b5 rfl xab _ _ _ (by simp[Act.eval]) ((eR fa.o aK).alloc _) _ 1 1 _ (by simp[Act.eval]) rfl (vg _ _ 0) (AD _) xab (by unfold maxLen;omega) xaa (by have B:=aK.size;have J:=aY.o;simp;omega) _ rfl ?_;intro g9 cap9 bg bQ a0 cd bO;obtain⟨_,aT,ao,aG,fP,fT,f0⟩:=e7.o _ _ _ 0 aK a0))
    all_goals
     have U:V _:=e8.o _ _ _ 0 _ _ aK bQ a0
     clear bQ a0 cd bO aK bU
     go_wp2
     go_roundw;exact⟨i+1,_,by omega,by go_num,hO HE.o U⟩;simp[intOf];omega
   obtain rfl:i=j:=xaa;have cV:=a5.o.ch.size;have cR:=ey.o;have Q:=oO (ndI vs outs i) vs i;have aa:V (kU vs outs=((gI (ndI vs outs i) vs i).1,kH (gI (ndI vs outs i) vs i).2 outs)):=by show _=_;unfold kU;rw[HL.o.1]
   have au:V _:=pC (show Kb _ from ae.o.1.lt) (ndI vs outs i) i;obtain⟨cN,bx,rfl⟩:=jp a5.o.own;generalize aZ:gI _ _ i=S at a5 aa au Q;clear aZ;have cJ:V _:=G0.keepC cx.o a5.o.ch xaa;have ff:V _:=RB.keepC eu.o a5.o.ch xaa;have e5:V _:=fy ek.o a5.o.ch (λb hb=>hM (en.o b hb));have cO:V _:=Chg.kept bo.o a5.o.ch (λb hb=>by omega);have ex:V (IR _ bl _/\S.2.length=i):=⟨a5.o.tq,a5.o.tl⟩
   have d0:V _:=a5.o.own;have ds:V (DT _ _ _ _ 0 _ _ _ ((kH S.2 outs).take 0)):=⟨a5.o.ob,yaw _ _ _ _,Chg.refl _ _,yad⟩
   have ec:V (br.heap.size<wr.heap.size/\bl<wr.heap.size/\w.heap.size+1+1+1<=bl/\bl<br.heap.size/\cq.heap.size=br.heap.size+1/\bj.heap.size=bl+1):=⟨by omega,by omega,by omega,by omega,by omega,by omega⟩
   have fl:V (wr.heap.size<=wr.heap.size):=yad;clear a5 cx eu ek bo er cV cR;go_wp2_with fail;generalize fm:wr.heap.size=E at ds ec fl;have e3:V _:=fm;clear fm fl;obtain⟨dp,eS⟩:∃dp,dp=wr:=⟨_,rfl⟩
   rw[<-eS]at ds cJ ff e5 cO ex d0 e3;go_loopw [10] (λx W=>∃(k:Nat) (X:Value),k<=n3/\x=hD k/\V (DT W dp br.heap.size E k (.slice a1 n1 d1) (.slice cN S.1.length bx) X ((kH S.2 outs).take k))) (λx _=>n3-(intOf x).toNat)
   case atStart=>exact⟨0,_,yae,rfl,by rw[eS]at ds⊢;exact ds⟩
   case round=>
    obtain⟨k,X,N,rfl,a5⟩:=hrel;clear ds eS;have cV:=a5.o.bz;have cR:=ec.o;obtain⟨_,a8,aV,p2⟩:=G0.keepC cJ.o a5.o.ch xaa;obtain⟨_,bI,bB,bE,c9,dd,dg⟩:=a5.o.ob;by_cases bG:k<n3
    ·have fs:=gY (hO HL.o.2 bG);have aB:=cX.o _ fs;obtain⟨m,em,aq⟩:∃m:Nat,outs.getD k 0=m/\m<i:=⟨(outs.getD k 0).toNat,by omega,by omega⟩
     obtain⟨fG,e0,ai,rfl,cP,_,gd,cT⟩:=(IS.keepC (IS.keep ae.o.2.2 cO.o yaa) a5.o.ch (λg _ J=>by omega)).at_idx (o:=k) xaa xaa;obtain rfl:k=ai:=xaa;rw[Int.toNat_natCast,em]at cT;have cr:=IR.cell (IR.keepC ex.o.1 a5.o.ch xaa) m (hO ex.o.2 aq)
     have bn:V ((kH S.2 outs).take (k+1)=(kH S.2 outs).take k++[S.2.getD m 0]):=by
      show _=_;rw[yau (by rw[kL,HL.o.2];exact bG)];congr 2;unfold kH;rw[List.getElem_map,<-Int.toNat_natCast (m),<-em,yai (l:=outs),yam (hO HL.o.2 bG)];rfl
     generalize S.2.getD m 0=y at cr bn;obtain⟨bz,b1,rfl⟩:=jp a5.o.own;have ee:=a5.o.bz;have cy:V _:=a5.o;clear a5 fs aB em;go_wp2_with fail;go_region_law ((refine step_append_lies _ rfl _ _ _ rfl E 3 _ _ 1 8 underlying23 fq c6 eT d5 rfl xab _ _ _ (by simp[Act.eval]) (me cy.o.own 1 _) _ 1 1 _ (by simp[Act.eval]) rfl (cell_one_new _ _ _) (by intro u aH;simp at aH;subst aH;rfl) xab (by unfold maxLen;omega) xaa yag _ rfl ?_;intro g9 cap9 bg bQ a0 cd bO;obtain⟨_,aT,ao,aG,fP,fT,f0⟩:=DT.mid cy.o ec.o.1 a0))
     all_goals
      have U:V _:=DT.next cy.o ec.o.1 bQ a0
      rw[<-bn.o]at U
      clear bQ a0 cd bO
      go_wp2
      go_roundw;exact⟨k+1,_,by omega,by go_num,U⟩;simp[intOf];omega
    obtain rfl:k=n3:=xaa;obtain⟨bz,b1,rfl⟩:=jp a5.o.own;obtain⟨_,aT,ao,aG,bF,a9,ba⟩:=RB.keepC ff.o a5.o.ch xaa;have bD:V _:=fy e5.o a5.o.ch (λb hb=>hM (en.o b hb));have fi:V _:=fy d0.o a5.o.ch (λb hb=>hN (eH d0.o hb) e3.o);have eb:V _:=a5.o.own;have fv:V _:=Chg.kept cO.o a5.o.ch (λb hb=>by omega);clear a5;go_wp2_with fail;obtain⟨bb,aM,aQ⟩:=eZ _ _ _ _ _ aT ao aG (.slice a1 n1 d1) (.slice cN S.1.length bx) (.slice bz k b1);have K:=fg wr (w.heap.size+1) (.slice a1 n1 d1) (.slice cN S.1.length bx) (.slice bz k b1);refine yaz (v:=eV a1 n1 d1 cN S.1.length bx bz k b1) (by simp[results,results77,go_sem,bb,aM,aQ]) rfl ⟨a1,d1,cN,S.1.length,bx,bz,b1,S.1,rfl,⟨?_,?_,?_⟩,?_,fv.o.new K xaa⟩
    ·exact pX (fX bD.o K (λb hb=>hM (en.o b hb))) (ae.o.2.1.len)
    ·exact MG (fX fi.o K (λb hb=>hM (eH fi.o hb))) rfl au.o
    ·rw[aa.o];have B:=fX eb.o K (λb hb=>hM (eH eb.o hb));rw[yap (by rw[kL,HL.o.2];omega)]at B;exact pX B (by rw[kL];exact HL.o.2)
    rw[aa.o];exact Lk.refl _):Zp:=h
theorem v.qei(h:Zp:=by
 have cX:V (∀o∈outs,0<=o/\o<T):=λo h=>hM (al o h)
 have HL:V (vs.length=T/\outs.length=n3):=⟨cu,cH⟩
 have fz:V _:=al;exact qag):Zp:=h
open v in
theorem Nr(w O ax Z n1 c1 T c2 n3 c3 ins vs outs)(f:GS w O n1 ax T Z n3 ins vs outs)(bN:okG ins vs outs=true):
  Calls prog 77 #[eV O n1 c1 ax T c2 Z n3 c3] w λe I=>SPo w n1 n3 ins (kU vs outs) e I:=by
 obtain⟨b3,eB,a6,b8,b5⟩:=info_parts sc;exact qgq
variable{w W W':World}{a1 Y a3 O ax Z:Option Addr}{n1 T n3 c1 c2 c3 d1 d2 d3 b4 t R i P:Nat}{bA ap bM:Value}{ins outs s:List Int}{vs us:List Vl}{nv:Vl}{x:Int}{S:Nat->Prop}
theorem GQ(h:W.ownsRow base 60 6 (.slice b n d) n (fK vs))(ab:vs.length=n)(H):∃G,VZ W G b n vs/\(((Value.slice b n d).ownBlock=some G/\base<=G/\G<W.heap.size/\0<n)\/(n=0/\G=H)):=by
 rcases Nat.eq_zero_or_pos n with ae|ae
 ·exact⟨H,.inl ae,.inr ⟨ae,rfl⟩⟩
 obtain⟨g,c,e,B,J,_,aU⟩:=mh h ae ab;cases e;exact⟨g,.inr ⟨rfl,aU⟩,.inl ⟨rfl,B,J,ae⟩⟩
theorem Ns(h:W.ownsRow base 3 1 (.slice b n d) n (xs.map (Value.int .i64)))(ab:xs.length=n)(H):∃G,IZ W G b n xs/\(((Value.slice b n d).ownBlock=some G/\base<=G/\G<W.heap.size/\0<n)\/(n=0/\G=H)):=by
 rcases Nat.eq_zero_or_pos n with ae|ae
 ·exact⟨H,.inl ae,.inr ⟨ae,rfl⟩⟩
 rcases tI h ab with B|⟨g,rfl,J,q⟩
 ·omega
 exact⟨g,.inr ⟨rfl,q⟩,.inl ⟨rfl,J,q.lt,ae⟩⟩
theorem VZ.va{G}(h:VZ W G b n vs)(hn:0<n):b=some ⟨G,0,none⟩/\VA W G n vs:=h.resolve_left xaa
theorem J8(h:W.ownsRow base 3 1 (.slice b n d) n (xs.map (Value.int .i64)))(ab:xs.length=n):IS W base W.heap.size b n xs:=by
 rcases tI h ab with ae|⟨g,e,hb,q⟩
 ·exact⟨ab,.inl ae⟩
 exact⟨ab,.inr ⟨g,0,e,hb,q.lt,q.lt,λk N=>by rw[Nat.zero_add];exact q.at_ k N⟩⟩
theorem Ch{aB o c u x}(ad:w.cell? ⟨g,k,none⟩=some (.slice a n c))(h:w.cell? ⟨aB,o,none⟩=some u)(aH:∀a n c,u≠.slice a n c):(w.setCell ⟨g,k,none⟩ x).cell? ⟨aB,o,none⟩=some u:=by
 by_cases e:g=aB/\k=o
 ·obtain⟨rfl,rfl⟩:=e;rw[ad]at h;exact absurd (hH h).symm (aH _ _ _)
 rw[eM _ _ _ _ _ _ xaa];exact h
theorem IS.setSl(f:IS w lo hi a n xs)(ad:w.cell? ⟨g,k,none⟩=some (.slice bV bT c0))(x):IS (w.setCell ⟨g,k,none⟩ x) lo hi a n xs:=
 ⟨f.len,by
  rcases f.at_ with ae|⟨aB,off,e,B,J,h3,a0⟩
  ·exact .inl ae
  ·exact .inr ⟨_,_,e,B,J,by simpa using h3,λj hj=>Ch ad (a0 j hj) (λ_ _ _ h=>by cases h)⟩⟩
theorem VS.setSl(f:VS w lo hi a n vs)(ad:w.cell? ⟨g,k,none⟩=some (.slice bV bT c0))(x):VS (w.setCell ⟨g,k,none⟩ x) lo hi a n vs:=
 ⟨f.len,f.lt,by
  rcases f.at_ with ae|⟨aB,off,e,B,J,h3,a0⟩
  ·exact .inl ae
  ·refine .inr ⟨_,_,e,B,J,by simpa using h3,λj hj=>?_⟩
   obtain⟨bu,d1,d2,d3,H,aj⟩:=a0 j hj
   refine⟨?_,?_,?_,?_,?_,?_⟩<;>exact Ch ad ‹_› (λ_ _ _ h=>by cases h)⟩
theorem GS.put3(f:GS w a1 n1 Y T a3 n3 ins vs outs){e1 e2}(r:RB w P (.slice e1 m1 d1) (.slice e2 b2 d2) (.slice af m3 d3))(x y z):
  GS (((w.setCell ⟨P,0,none⟩ x).setCell ⟨P,1,none⟩ y).setCell ⟨P,2,none⟩ z) a1 n1 Y T a3 n3 ins vs outs:=by
 have au:∀{w:World}{k n c:Nat}{a:Option Addr} (f:GS w a1 n1 Y T a3 n3 ins vs outs) (ad:w.cell? ⟨P,k,none⟩=some (.slice a n c)) (x:Value),GS (w.setCell ⟨P,k,none⟩ x) a1 n1 Y T a3 n3 ins vs outs:=λf ad x=>⟨by simpa using f.i.setSl ad x,by simpa using f.v.setSl ad x,by simpa using f.o.setSl ad x⟩
 refine au (au (au f r.q0 x) (n:=b2) (c:=d2) (a:=e2) ?_ y) (n:=m3) (c:=d3) (a:=af) ?_ z
 ·rw[eM _ _ _ _ _ _ (.inr xaa)];exact r.q1
 rw[eM _ _ _ _ _ _ (.inr xaa),eM _ _ _ _ _ _ (.inr xaa)];exact r.q2
def GVo(w:World)(n1 n3:Nat)(ins:List Int)(e:Ending)(w':World):Prop:=
 ∃a1 d1 a2 n2 d2 a3 d3 us os,e=.returned (eV a1 n1 d1 a2 n2 d2 a3 n3 d3)/\GS w' a1 n1 a2 n2 a3 n3 ins us os/\okG ins us os=true/\Kept 0 0 w w'
theorem GVo.ret(k:Kept 0 0 w W)(hP:w.heap.size<=P){e1 e2 c1 c2 c3}(r:RB W P (.slice e1 m1 c1) (.slice e2 b2 c2) (.slice af m3 c3))(g:GS W a1 n1 Y T a3 n3 ins us s)(h:okG ins us s=true):
  GVo w n1 n3 ins (.returned (eV a1 n1 d1 Y T d2 a3 n3 d3)) (((W.setCell ⟨P,0,none⟩ (.slice a1 n1 d1)).setCell ⟨P,1,none⟩ (.slice Y T d2)).setCell ⟨P,2,none⟩ (.slice a3 n3 d3)):=
 ⟨a1,d1,Y,T,d2,a3,d3,us,s,rfl,g.put3 r _ _ _,h,k.new (fg W P _ _ _) hP⟩
structure CW(w W:World)(O G2 G3:Nat)(g1 g2 g3:Value)(a1:Option Addr)(n1 d1:Nat)(a2:Option Addr)(n2 d2:Nat)(a3:Option Addr)(n3 d3:Nat)(ins:List Int)(us:List Vl)(os:List Int):Prop where
 pb:G0 W w.heap.size g1 g2 g3
 rb:RB W (w.heap.size+1) (.slice none 0 0) (.slice none 0 0) (.slice none 0 0)
 ob:RB W O (.slice a1 n1 d1) (.slice a2 n2 d2) (.slice a3 n3 d3)
 va:VZ W G2 a2 n2 us
 oz:IZ W G3 a3 n3 os
 ow:W.ownsRow (w.heap.size+2) 3 1 (.slice a1 n1 d1) n1 (ins.map (Value.int .i64))
 kp:Kept 0 0 w W
 bl:∀b,(Value.slice a1 n1 d1).ownBlock=some b->b<O/\b≠G2/\b≠G3
 lt:G2≠G3/\G2<O/\G3<O/\(n2=0\/w.heap.size+1<G2)/\(n3=0\/w.heap.size+1<G3)/\w.heap.size+1<O/\O<W.heap.size
theorem CW.oth{us' r}(f:CW w W b4 t R bA ap bM a1 n1 d1 Y T d2 a3 n3 d3 ins us s)(c:Chg S W W')(h:∀b,S b->w.heap.size+1<b/\b≠b4/\(Value.slice a1 n1 d1).ownBlock≠some b)(am:VZ W' t Y T us')(e:IZ W' R a3 n3 r):CW w W' b4 t R bA ap bM a1 n1 d1 Y T d2 a3 n3 d3 ins us' r:=
 ⟨f.pb.keepC c (λq=>hM (h _ q)),f.rb.keepC c (λq=>hM (h _ q)),f.ob.keepC c (λq=>(h _ q).2.1 rfl),am,e,fy f.ow c (λg aR q=>(h g q).2.2 aR),Chg.kept f.kp c (λb q=>hM (h b q)),f.bl,hN f.lt c.size⟩
theorem CW.chg(f:CW w W b4 t R bA ap bM a1 n1 d1 Y T d2 a3 n3 d3 ins us s)(c:Chg (λb=>b4+1<=b) W W'):CW w W' b4 t R bA ap bM a1 n1 d1 Y T d2 a3 n3 d3 ins us s:=by
 have:=f.lt;exact f.oth c (λb q=>⟨by omega,by omega,λe=>hM (f.bl b e)⟩) (f.va.keepC c xaa) (f.oz.keepC c xaa)
theorem CW.app{I}{e z:Nat}{xs}(f:CW w W b4 t R bA ap bM a1 n1 d1 Y T d2 a3 n3 d3 ins us s)(h:W.ownsRow (b4+1) e z I m xs)(c:Chg (λb=>I.ownBlock=some b) (W.alloc o) bg):CW w bg b4 t R bA ap bM a1 n1 d1 Y T d2 a3 n3 d3 ins us s:=(f.chg (ez 0 0 W o).chg).chg (c.mono λ_ _ q=>(eH h q).1)
theorem CW.put(f:CW w W b4 t R bA ap bM a1 n1 d1 Y T d2 a3 n3 d3 ins us s)(k:Kept 0 0 W W')(hi:i<T)(nv):CW w (nW W' t (i*6) nv) b4 t R bA ap bM a1 n1 d1 Y T d2 a3 n3 d3 ins (us.set i nv) s:=by
 have:=f.lt;have f:=f.chg k.chg;have cp:Chg (λb=>b=t) _ _:=(kY W' t (i*6) nv).chg1 rfl;obtain⟨e,aU⟩:=f.va.va xaa;exact f.oth cp (λb q=>⟨by omega,by omega,λe=>(f.bl b e).2.1 q⟩) (.inr ⟨e,aU.step i hi _⟩) (f.oz.keepC cp xaa)
theorem CW.setO(f:CW w W b4 t R bA ap bM a1 n1 d1 Y T d2 a3 n3 d3 ins us s)(hi:i<n3)(x):CW w (W.setCell ⟨R,i,none⟩ (hD x)) b4 t R bA ap bM a1 n1 d1 Y T d2 a3 n3 d3 ins us (s.set i x):=by
 have:=f.lt;have cp:Chg (λb=>b=R) _ _:=(eP (lo:=R) (hi:=R+1) W ⟨R,i,none⟩ (hD x) yac).chg1 rfl;obtain⟨e,aU⟩:=f.oz.resolve_left xaa;exact f.oth cp (λb q=>⟨by omega,by omega,λe=>(f.bl b e).2.2 q⟩) (f.va.keepC cp xaa) (.inr ⟨e,aU.put i hi x⟩)
theorem CW.gs(f:CW w W b4 t R bA ap bM a1 n1 d1 Y T d2 a3 n3 d3 ins us s)(hi:ins.length=n1)(aH:us.length=T)(al:s.length=n3)(bZ:Kb us):GS W a1 n1 Y T a3 n3 ins us s:=⟨pX f.ow hi,f.va.vs aH bZ,f.oz.is al⟩
theorem Ma(f:GS w O n1 ax T Z n3 ins vs outs)(b1:n1<=20)(ce:T<=2000)(a9:n3<=50):
  Calls prog 46 #[eV O n1 c1 ax T c2 Z n3 c3] ((w.alloc (eW O n1 c1 ax T c2 Z n3 c3)).alloc fj) λe a7=>∃a1 d1 Y d2 a3 d3 t R,e=.returned (eV a1 n1 d1 Y T d2 a3 n3 d3)/\CW w (a7.alloc (eW a1 n1 d1 Y T d2 a3 n3 d3)) a7.heap.size t R (.slice O n1 c1) (.slice ax T c2) (.slice Z n3 c3) a1 n1 d1 Y T d2 a3 n3 d3 ins vs outs:=by
 have an:=ez 0 0 w (eW O n1 c1 ax T c2 Z n3 c3);have aj:=ez 0 0 (w.alloc (eW O n1 c1 ax T c2 Z n3 c3)) fj;have C:=fF (w.alloc (eW O n1 c1 ax T c2 Z n3 c3));rw[show(w.alloc (eW O n1 c1 ax T c2 Z n3 c3)).heap.size=w.heap.size+1 by simp]at C;refine(qV _ O ax Z n1 c1 T c2 n3 c3 ins vs outs (f.keep (an.trans aj)) xaa xaa xaa).mono ?_;rintro e a7 ⟨a1,d1,Y,d2,a3,d3,rfl,ch,bO,a5,⟨u,v,l⟩,aF⟩;have z:=aF.size;have bi:((w.alloc (eW O n1 c1 ax T c2 Z n3 c3)).alloc fj).heap.size=w.heap.size+2:=by simp
 rw[bi]at ch bO a5 z;have bZ:=ez 0 0 a7 (eW a1 n1 d1 Y T d2 a3 n3 d3);obtain⟨t,au,j⟩:=GQ bO f.v.len 0;obtain⟨R,y,h⟩:=Ns a5 f.o.len 1;refine⟨a1,d1,Y,d2,a3,d3,t,R,rfl,(ft w _ _ _).keep (aj.trans (aF.trans bZ)),C.keep (aF.trans bZ),rL a7 _ _ _,au.keep bZ yaa,y.keep bZ yaa,eR ch bZ,(an.trans aj).trans (aF.trans bZ),λb hb=>?_,?_⟩
 ·have H:=eH ch hb;refine⟨H.2,λc=>?_,λc=>?_⟩
  ·rcases j with q|q
   ·exact u t q.1 (hQ c hb)
   omega
  rcases h with q|q
  ·exact l b hb (hO c q.1)
  omega
 have cf:t≠R:=λc=>by
  rcases j with q|q
  ·rcases h with r|r
   ·exact v t q.1 (hO c r.1)
   ·omega
  ·rcases h with r|r<;>omega
 have:(a7.alloc (eW a1 n1 d1 Y T d2 a3 n3 d3)).heap.size=a7.heap.size+1:=by simp
 omega
variable{w:World}{a1 Y a3:Option Addr}{n1 c1 T c2 n3 c3 lo hi i K k:Nat}{bx A:List Vl}{v:Vl}{op len a b c:Int}
theorem GR(w):(Op.unary .neg (.float .f64 0)).run prog w=.ok (.float .f64 9223372036854775808) w:=rfl
theorem Nt(ad:op=4/\K=4607182418800017408\/op=5/\K=4607182418800017408\/op=3/\K=0\/op=2/\K=9223372036854775808)(H:∀W,Kept 0 0 w W->∀o,o=a\/o=b->Calls prog 152 #[eV a1 n1 c1 Y T c2 a3 n3 c3,hD o,.float .f64 K] W λe I=>e=.returned (.bool (isC A o K))/\Kept 0 0 W I):
  Calls prog 129 #[eV a1 n1 c1 Y T c2 a3 n3 c3,kT op len a b c k] w λe I=>e=.returned (hD (if isC A b K=true then a else if (op=4\/op=2)/\isC A a K=true then b else -1))/\Kept 0 0 w I:=by
 have aA:V _:=λW q=>H W q b (.inr rfl);have aa:V _:=λW q=>H W q a (.inl rfl);have HK:V _:=(ez 0 0 w (eW a1 n1 c1 Y T c2 a3 n3 c3)).trans (ez 0 0 _ (fB op len a b c k));have aX:V _:=(ft w (.slice a1 n1 c1) (.slice Y T c2) (.slice a3 n3 c3)).keep (ez 0 0 _ (fB op len a b c k));have a5:=i5 (w.alloc (eW a1 n1 c1 Y T c2 a3 n3 c3)) ⟨op,len,a,b,c,k⟩;rw[show(w.alloc _).heap.size=w.heap.size+1 by simp]at a5;have bn:V _:=a5;have b7:V (w.heap.size+1<((w.alloc (eW a1 n1 c1 Y T c2 a3 n3 c3)).alloc (fB op len a b c k)).heap.size):=by show _<_;simp
 generalize isC A b K=u at aA⊢;generalize isC A a K=bh at aa⊢;have f:=GR;clear H a5;rcases ad with⟨rfl,rfl⟩|⟨rfl,rfl⟩|⟨rfl,rfl⟩|⟨rfl,rfl⟩
 all_goals
  go_enter func129,ntmps129
  go_wp2_with fail
  generalize (w.alloc _).alloc _=aO at aX bn HK b7⊢
  refine yaj (aA.o _ HK.o) ?_
  rintro e ag ⟨rfl,ah⟩
  have bD:V _:=HK.o.trans ah
  have cd:V _:=bn.o.keep b7.o ah yaa
  have bJ:V _:=yak b7.o ah.size
  obtain⟨_,a8,aV,p2⟩:=aX.o.keep ah
  clear ah aX bn HK b7
  obtain⟨bI,bB,bE,b6,ct,bo⟩:=cd.o
  simp only[Nat.zero_add]at bB bE b6 ct bo
  cases u
  ·first
   |(go_wp2_with fail
     refine yaj (aa.o _ bD.o) ?_
     rintro e a7 ⟨rfl,aF⟩
     have bR:V _:=bD.o.trans aF
     obtain⟨bC,aN,a2,bk,bq,co⟩:=cd.o.keep bJ.o aF yaa
     simp only[Nat.zero_add]at aN a2 bk bq co
     clear aF a8 aV p2 bI bB bE b6 ct bo
     cases bh
     all_goals
      go_wp2
      go_ret
      exact⟨by simp,bR.o⟩)
   |(go_wp2
     go_ret
     exact⟨by simp,bD.o⟩)
  ·go_wp2
   go_ret
   exact⟨by simp,bD.o⟩
theorem Nu(f:VS w lo hi Y T bx)(h:∀o∈eQ v,0<=o/\o<i)(bf:i<=T)(aU:∀m,m<i->bx.getD m hI=A.getD m hI):
  ∃r:Int,fQ 4 A v i=(if 0<=r then r else (i:Int))/\∀W,Kept 0 0 w W->Calls prog 129 #[eV a1 n1 c1 Y T c2 a3 n3 c3,v.agg] W λe I=>e=.returned (hD r)/\Kept 0 0 W I:=by
 obtain⟨op,len,a,b,c,k⟩:=v;by_cases aH:op=4\/op=5\/op=3\/op=2
 ·have J:cnt op=2:=uM xaa;have F:=h a (gm (by show 1<=cnt op;omega));have hb:=h b (jd (by show 2<=cnt op;omega))
  obtain⟨K,ad⟩:∃K,op=4/\K=4607182418800017408\/op=5/\K=4607182418800017408\/op=3/\K=0\/op=2/\K=9223372036854775808:=by
   rcases aH with rfl|rfl|rfl|rfl<;>simp
  have aw:fb K=K:=by rcases ad with h|h|h|h<;>rw[h.2]<;>decide
  refine⟨_,?_,λW l=>Nt (A:=A) ad λW aj o al=>?_⟩
  ·by_cases aL:isC A b K=true<;>by_cases aJ:isC A a K=true<;>rcases ad with⟨rfl,rfl⟩|⟨rfl,rfl⟩|⟨rfl,rfl⟩|⟨rfl,rfl⟩<;>simp[fQ,aL,aJ,F.1,hb.1]
  have:0<=o/\o<i:=by rcases al with rfl|rfl<;>assumption
  obtain⟨m,rfl,aq⟩:∃m:Nat,o=m/\m<i:=⟨o.toNat,by omega,by omega⟩
  obtain⟨g,off,rfl,aR,_,_,be⟩:=(f.keep (l.trans aj) yaa).at_idx (i:=m) xaa;refine(Da W _ _ _ _ _ _ _ _ g _ m _ K aR xaa be (Kb.at_ f.lt m) xaa).mono λe I q=>⟨?_,q.2⟩
  rw[q.1,isC,Int.toNat_natCast,aw,aU m aq]
 have J:(op==2)=false:=yan xaa;have h3:(op==3)=false:=yan xaa;have a0:(op==4)=false:=yan xaa;have bz:(op==5)=false:=yan xaa;refine⟨-1,?_,λW _=>?_⟩
 ·simp only[beq_eq_false_iff_ne]at J h3 a0 bz;simp[fQ,J,h3,a0,bz]
 clear h aU f aH;go_enter func129,ntmps129;go_wp2;go_ret;exact⟨rfl,(ez 0 0 W _).trans (ez 0 0 _ _)⟩
