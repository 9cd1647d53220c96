import Derived.Test.YtbhmhdllnfkjhaaGreatP43
import Derived.Test.YtbhmhdllnfkjhaaGreatP23
namespace Go.Proofs.Z
variable{Zp:Prop}
open Tryz
set_option maxRecDepth 1000000
set_option maxHeartbeats 0
section
open Go.RowKit Flt
attribute[local go_sem] eG eE eD
variable{w I:World}{R n c:Nat}{b a:Option Addr}{xs:List Int}
theorem IW(w a1 Y a3 n1 c1 T c2 bM n3 c3 lo hi a n cap tq outs)(f:IBk w bM n3 outs)(t:IS w lo hi a n tq)(G:hi<=bM\/bM<lo)(h:∀o∈outs,0<=o/\o<n)(hn:n3<=1000000)(h3:0<n3->a3=some ⟨bM,0,none⟩):
  Calls prog 87 #[eV a1 n1 c1 Y T c2 a3 n3 c3,.slice a n cap] w λe I=>e=.returned (.tuple #[])/\IBk I bM n3 (kH tq outs)/\Kept bM (bM+1) w I:=by
 have an:=ez 0 0 w (eW a1 n1 c1 Y T c2 a3 n3 c3);have aA:V _:=ft w (.slice a1 n1 c1) (.slice Y T c2) (.slice a3 n3 c3);have aI:V _:=f.keep an yaa;have b1:V _:=t.keep an yaa;have HL:V _:=f.len;have aX:V _:=f.lt;have HO:V _:=h;have aZ:V (Kept bM (bM+1) w (w.alloc (eW a1 n1 c1 Y T c2 a3 n3 c3))):=ez _ _ _ _;have H3:V _:=h3;clear f t h an h3;obtain⟨_,bd,aL,aJ⟩:=aA.o;go_enter func87,ntmps87;go_wp2_with fail;clear bd aL aJ;generalize w.alloc _=aO at aA aI b1 aZ⊢;go_loopw [9] (λi W=>∃k:Nat,k<=n3/\i=hD k/\V (IBk W bM n3 ((kH tq outs).take k++outs.drop k))/\V (Kept bM (bM+1) aO W)) (λi _=>n3-(intOf i).toNat)
 case atStart=>exact⟨0,yae,rfl,by simpa using aI,Kept.refl _ _ _⟩
 case round=>
  obtain⟨k,N,rfl,bp,aw⟩:=hrel;clear aI;by_cases aC:k<n3
  ·obtain rfl:=H3.o xaa;have al:=HO.o _ (gY (hO HL.o aC));obtain⟨g,off,m,rfl,em,aq,aR,ao⟩:=(IS.keep b1.o aw.o xaa).at_idx al.1 al.2;have af:=bp.o.at_ k aC;rw[Jn (hO HL.o aC) (kL _ _),em]at af;have cF:=bp.o.free k;obtain⟨_,bd,aL,aJ⟩:=G0.keepT aA.o aw.o (hM aX.o);have R1:V _:=IBk.put bp.o k aC (tq.getD (outs.getD k 0).toNat 0);rw[yI (hO HL.o aC)]at R1;have R2:V _:=Kept.trans aw.o (eP _ ⟨_,k,none⟩ (hD (tq.getD (outs.getD k 0).toNat 0)) yac);generalize tq.getD _ 0=x at ao R1 R2;clear bp aw al em;go_wp2_with fail;go_region
   all_goals
    go_wp2
    go_roundw;exact⟨k+1,by omega,by go_num,IBk.keep R1.o (eF _) yaa,Kept.drew R2.o⟩;simp[intOf];omega
  obtain rfl:k=n3:=xaa
  have R1:V (IBk wr bM k (kH tq outs)):=by
   have:=bp.o;rw[yap (by rw[kL,HL.o];omega),List.drop_of_length_le (hR HL.o),List.append_nil]at this;exact this
  have R2:V _:=Kept.trans aZ.o aw.o;clear bp aw;go_wp2;go_end0
  exact⟨rfl,R1.o,R2.o⟩
theorem Lw(w a1 Y a3 n1 c1 ap T c2 bM n3 c3 vs outs)(aD:VA w ap T vs)(al:IBk w bM n3 outs)(bX:∀i,i<T->∀o∈eQ (vs.getD i hI),0<=o/\o<i)(h:∀o∈outs,0<=o/\o<T)(hn:T<=2000)(cS:n3<=1000000)(J:0<T->Y=some ⟨ap,0,none⟩)(h3:0<n3->a3=some ⟨bM,0,none⟩):
  Calls prog 85 #[eV a1 n1 c1 Y T c2 a3 n3 c3] w λe I=>∃G,e=.returned (hC G T T)/\w.heap.size<=G/\BR I G (ndI vs outs T)/\Kept 0 0 w I:=by
 have an:=ez 0 0 w (eW a1 n1 c1 Y T c2 a3 n3 c3);have aS:=ft w (.slice a1 n1 c1) (.slice Y T c2) (.slice a3 n3 c3);have bi:(w.alloc (eW a1 n1 c1 Y T c2 a3 n3 c3)).heap.size=w.heap.size+1:=by simp
 have aq:=AH T (w.alloc (eW a1 n1 c1 Y T c2 a3 n3 c3)) xaa;have f:=BR.made (w.alloc (eW a1 n1 c1 Y T c2 a3 n3 c3)) T;have aj:=ez 0 0 (w.alloc (eW a1 n1 c1 Y T c2 a3 n3 c3)) (.cells (madeCells #[.bool false] T) 4);rw[bi]at aq f;have aA:V _:=aS.keep aj;have bL:V _:=aD.keep (an.trans aj) yaa;have HO:V _:=al.keep (an.trans aj) yaa;have HK:V _:=an.trans aj;have p:V _:=f;have HL:V (vs.length=T/\outs.length=n3):=⟨aD.len,al.len⟩
 have aX:V (ap<w.heap.size/\bM<w.heap.size):=⟨aD.lt,al.lt⟩
 have bV:V ((∀i,i<T->∀o∈eQ _,0<=o/\o<i)/\(∀o∈outs,0<=o/\o<T)):=⟨bX,h⟩
 have H2:V _:=J;have H3:V _:=h3;clear J h3 aD al bX h an aj f bi;obtain⟨_,bd,aL,aJ⟩:=aS;obtain⟨_,a8,aV,p2⟩:=aA.o;go_enter func85,ntmps85;go_wp2_with fail;clear bd aL aJ a8 aV p2 aq;generalize (w.alloc _).alloc _=aO at aA bL HO HK p⊢;go_loopw [16] (λi W=>∃k:Nat,k<=n3/\i=hD k/\V (BR W (w.heap.size+1) (ik (List.replicate T false) (outs.take k)))/\V (Kept (w.heap.size+1) (w.heap.size+2) aO W)) (λi _=>n3-(intOf i).toNat)
 case atStart=>exact⟨0,yae,rfl,p,Kept.refl _ _ _⟩
 case round=>
  obtain⟨k,N,rfl,bp,aw⟩:=hrel;clear p;by_cases aC:k<n3
  ·obtain rfl:=H3.o xaa;have aB:=bV.o.2 _ (gY (hO HL.o.2 aC));obtain⟨m,em,aq⟩:∃m:Nat,outs.getD k 0=m/\m<T:=⟨(outs.getD k 0).toNat,by omega,by omega⟩
   have af:=(IBk.keep HO.o aw.o (hM aX.o)).at_ k aC;rw[em]at af;have ab:(ik (List.replicate T false) (outs.take k)).length=T:=by rw[lg];simp
   have c2':=bp.o.cell m xaa;have cF:=bp.o.free m;have R1:V _:=BR.set bp.o m true;rw[show m=(outs.getD k 0).toNat by omega,<-oF _ _ (hO HL.o.2 aC),<-show m=(outs.getD k 0).toNat by omega]at R1;have R2:V _:=Kept.trans aw.o (eP _ ⟨_,m,none⟩ (.bool true) yac);generalize (ik _ _).getD m _=z at c2';clear bp aw aB em ab;exact xdm
  obtain rfl:k=n3:=xaa
  have g:V (BR wr (w.heap.size+1) (ndI vs outs 0)):=by
   have:=bp.o;rw[yap (hR HL.o.2)]at this;show BR _ _ _;rw[ndI,HL.o.1];exact this
  have aZ:V _:=aw.o;clear bp aw;obtain⟨_,a8,aV,p2⟩:=G0.keepT aA.o aZ.o xaa;go_wp2_with fail;clear a8 aV p2;go_loopw [6] (λx W=>∃j:Nat,j<=T/\x=hD ((T:Int)-1-j)/\V (BR W (w.heap.size+1) (ndI vs outs j))/\V (Kept (w.heap.size+1) (w.heap.size+2) aO W)) (λx _=>(intOf x+1).toNat)
  case atStart=>exact⟨0,yae,by go_num,g,aZ⟩
  case round=>
   obtain⟨j,hj,rfl,bp,aw⟩:=hrel;clear g aZ;by_cases aC:j<T
   ·obtain rfl:=H2.o xaa;have y:T-1-j<T:=xaa;obtain⟨i,hi⟩:∃i:Nat,i=T-1-j:=⟨_,rfl⟩
    have bf:(T:Int)-1-j=i:=xaa;have r:i<T:=xaa;rw[bf];have cG:V _:=hi;have bP:V _:=bf;clear hi bf y;have ct:=mG vs outs j;have cb:=bp.o.cell i (by rw[ct,HL.o.1];exact r);cases hb:(ndI vs outs j).getD i false
    ·have R1:V (BR wr (w.heap.size+1) (ndI vs outs (j+1))):=by
      show BR _ _ _;rw[yJ (b:=false) (by rw[HL.o.1,<-cG.o];exact hb),hF xac];exact bp.o
     have R2:V _:=aw.o;rw[hb]at cb;clear bp aw ct hb;exact xge
    rw[hb]at cb;have be:=(VA.keep bL.o aw.o (hM aX.o)).at_ i r;have cC:V _:=bV.o.1 i r
    have bu:V (ndI vs outs (j+1)=ik (ndI vs outs j) (eQ (vs.getD i hI))):=by
     show _=_;rw[yJ (b:=true) (by rw[HL.o.1,<-cG.o];exact hb),hG rfl,HL.o.1,<-cG.o]
    have b6:V ((ndI vs outs j).length=T):=by show _=_;rw[ct,HL.o.1]
    generalize vs.getD i _=v at be cC bu;obtain⟨bb,aM,aQ,bY,cg,cn⟩:=be;obtain⟨_,a8,aV,p2⟩:=G0.keepT aA.o aw.o xaa;clear hb ct;go_wp2_with fail;clear bb aM aQ bY cg cn a8 aV p2 cb;refine yaj (nu _ v) ?_;rintro e ag ⟨C,rfl,(bW:V _),B,ah⟩;have bD:V _:=Kept.trans aw.o (ah.mono λb _ c=>by omega);have aH:V _:=BR.keep bp.o ah yaa;have cJ:V (w.heap.size+2<=wr.heap.size):=bp.o.lt;clear B ah bp aw;generalize ndI _ _ j=F at aH bu b6;have ad:=f9 v.op;go_wp2_with fail;go_loopw [44] (λx W=>∃q:Nat,q<=cnt v.op/\x=hD q/\V (BR W (w.heap.size+1) (ik F ((eQ v).take q)))/\V (Kept (w.heap.size+1) (w.heap.size+2) aO W)/\V (IS W wr.heap.size ag.heap.size (some ⟨C,0,none⟩) (cnt v.op) (eQ v))) (λx _=>cnt v.op-(intOf x).toNat)
    case atStart=>exact⟨0,yae,rfl,aH,bD,bW⟩
    case round=>
     obtain⟨q,am,rfl,bp,aw,a6⟩:=hrel;clear aH bD bW;by_cases s:q<cnt v.op
     ·have bC:=gY (by rw[iz];exact s);have aB:=cC.o _ bC;obtain⟨m,em,aq⟩:∃m:Nat,(eQ v).getD q 0=m/\m<T:=⟨((eQ v).getD q 0).toNat,by omega,by omega⟩
      obtain⟨bw,bh,bx,b4,aF,_,_,af⟩:=a6.o.at_idx (o:=q) xaa xaa;cases b4;rw[Int.toNat_natCast,em,Nat.zero_add]at af;obtain rfl:q=bx:=xaa;have ab:(ik F ((eQ v).take q)).length=T:=by rw[lg];exact b6.o
      have c2':=bp.o.cell m xaa;have cF:=bp.o.free m;have R1:V _:=BR.set bp.o m true;rw[show m=((eQ v).getD q 0).toNat by omega,<-oF _ _ (by rw[iz];exact s),<-show m=((eQ v).getD q 0).toNat by omega]at R1;have K:=eP (lo:=w.heap.size+1) (hi:=w.heap.size+2) wr ⟨_,m,none⟩ (.bool true) yac;have R2:V _:=Kept.trans aw.o K;have R3:V _:=IS.keep a6.o K (hM cJ.o);generalize (ik F _).getD m _=z at c2';clear bp aw a6 aB em ab K bC;go_wp2;go_roundw;exact⟨q+1,by omega,by go_num,R1,R2,R3⟩;simp[intOf];omega
     obtain rfl:q=cnt v.op:=xaa
     have R1:V (BR wr (w.heap.size+1) (ndI vs outs (j+1))):=by
      have:=bp.o;rw[yap (by rw[iz];omega)]at this;show BR _ _ _;rw[bu.o];exact this
     have R2:V _:=aw.o;clear bp aw a6;exact xge
   obtain rfl:j=T:=xaa;have ak:(j:Int)-1-j=-1:=xaa;rw[ak];have R1:V _:=bp.o;have R2:V _:=HK.o.new aw.o xaa;clear bp aw;go_wp2;go_ret;exact⟨_,rfl,by omega,R1.o,R2.o⟩
def POg(w:World)(b1 b3:Option Addr)(g1 n1 c1 g2 g3 n3 c3:Nat)(ins:List Int)(M:List Vl×List Int)(e:Ending)(w':World):Prop:=
 ∃G2 n2 c2 us,e=.returned (eV b1 n1 c1 (some ⟨G2,0,none⟩) n2 c2 b3 n3 c3)/\PG w' g1 G2 g3 n1 n2 n3 ins us M.2/\us=M.1/\Kb us/\Chg (λb=>b=g2\/b=g3) w w'/\(G2=g2\/w.heap.size<=G2)
theorem dB.qeq(h:Zp:=by
 have H2:V _:=J;have H3:V _:=h3;clear J h3 hP bN ck cz cA aD al cu cH C bi an aj s aS bp;obtain⟨_,bd,aL,aJ⟩:=aA.o;go_enter func54,ntmps54;go_wp2_with fail;clear bd aL aJ;generalize (w.alloc _).alloc _=aO at aA aI HR bV HK u r⊢;refine yaj r.o ?_;rintro e ag ⟨G,rfl,bv,f,ah⟩;have aq:=rx T ag xaa;have bh:=IR.made ag T;have aF:=ez 0 0 ag (.cells (madeCells #[hD 0] T) 3);have z:(ag.alloc (.cells (madeCells #[hD 0] T) 3)).heap.size=ag.heap.size+1:=by simp
 have ca:=ez 0 0 (ag.alloc (.cells (madeCells #[hD 0] T) 3)) (.cells #[] 60);have H:=World.ownsRow_made (base:=ag.heap.size+1) (e:=60) (size:=6) (ag.alloc (.cells (madeCells #[hD 0] T) 3)) #[] 0 xaa (by unfold maxLen;omega) rfl;rw[z]at H;have bK:V _:=aA.o.keep (ah.trans (aF.trans ca));have ar:V _:=HR.o.keep (ah.trans (aF.trans ca));have cK:V _:=aI.o.keep (ah.trans (aF.trans ca));have cf:V _:=bV.o.keep (ah.trans (aF.trans ca));have b0:V _:=HK.o.trans (ah.trans (aF.trans ca));have p:V _:=f.keep (aF.trans ca) yaa;have av:V (w.heap.size+1+1<=ag.heap.size/\G<ag.heap.size/\((ag.alloc (.cells (madeCells #[hD 0] T) 3)).alloc (.cells #[] 60)).heap.size=ag.heap.size+1+1):=⟨hN u.o ah.size,f.lt,by simp⟩
 have k:V (DI _ _ _ T _ _ 0 (gI (ndI vs outs T) _ 0)):=
  ⟨by rw[gI,HL.o];exact bh.keep ca yaa,by rw[gI,HL.o];simp,H,Chg.refl _ _,by simp⟩
 obtain⟨_,bd,aL,aJ⟩:=aA.o.keep ah;obtain⟨_,aT,ao,aG⟩:=bK.o;clear r f ah aF ca H bh z aA HR bV HK;go_wp2_with fail;clear bd aL aJ aT ao aG aq bv;generalize (ag.alloc _).alloc _=bj at bK cK ar cf b0 p av k⊢;go_loopw [5,18] (λb4 x W=>∃i gk cap:Nat,i<=T/\b4=hC gk (gI (ndI vs outs T) vs i).1.length cap/\x=hD i/\V (DI W bj ag.heap.size T (ag.heap.size+1) gk cap (gI (ndI vs outs T) vs i))) (λ_ x _=>T-(intOf x).toNat)
 case atStart=>exact⟨0,_,0,yae,rfl,rfl,k⟩
 case round=>
  obtain⟨i,gk,cap,hi,rfl,rfl,a5⟩:=hrel;clear k;by_cases aC:i<T
  ·obtain rfl:=H2.o xaa;have cV:=a5.o.ch.size;have cR:=av.o;have ae:=cf.o.v.keepC a5.o.ch (hM aX.o);have be:=ae.at_ i aC;have bX:=i6 (bL.o i aC);have t:V _:=be;have Y:=BR.keepC p.o a5.o.ch xaa;have c8:(ndI vs outs T).length=T:=by rw[mG];exact HL.o
   have cb:=Y.cell i xaa;have P:=BR.keep Y (ez 0 0 _ (fB (vs.getD i hI).op (vs.getD i hI).len (vs.getD i hI).a (vs.getD i hI).b (vs.getD i hI).c (vs.getD i hI).k)) yaa;have a7:=P.cell i xaa;have Q:=oO (ndI vs outs T) vs i;cases hb:(ndI vs outs T).getD i false
   ·have U:V (∀W,Kept 0 0 _ W->DI W _ _ _ _ _ _ (gI _ _ _)):=λW l=>by rw[uj hb];exact a5.o.stay l
    have HE:V (gI _ vs _=gI _ _ i):=uj hb;rw[hb]at cb a7;generalize vs.getD i _=v at be a7;obtain⟨bb,aM,aQ,bY,cg,cn⟩:=be;clear hb c8 Q bX ae Y P a5 t;go_wp2;go_roundw;exact⟨i+1,gk,cap,by omega,by rw[HE.o],by go_num,U.o _ (ez 0 0 _ _)⟩;simp[intOf];omega
   rw[hb]at cb a7;have HE:V _:=Cb (vs:=vs) hb;generalize aD:vs.getD i _=v at be a7 t HE bX;generalize aZ:gI _ _ i=S at a5 HE Q;have cy:V _:=a5.o;have dv:S.1.length<=2000:=xaa;have aP:V _:=a5.o.tl
   have ab:V (∀W,Kept 0 0 _ W->_):=λW l=>
    LU W v _ _ _ T T _ (IR.isAt (IR.keep (IR.set (IR.keep a5.o.tq (ez 0 0 _ (fB v.op v.len v.a v.b v.c v.k)) yaa) i (S.1.length:Nat)) l yaa) (by rw[List.length_set];exact a5.o.tl)) (λo h=>hM (bX o h))
   have ai:=IR.keep a5.o.tq (ez 0 0 _ (fB v.op v.len v.a v.b v.c v.k)) yaa;have cr:=IR.cell ai i (hO aP.o aC);have di:=IR.free ai i;generalize S.2.getD i 0=cW at cr;have bn:V _:=i5 wr v;have aK:ag.heap.size≠wr.heap.size:=xaa;have cD:=eH a5.o.own (k:=gk) rfl;have aY:V (ag.heap.size+1<=gk/\ag.heap.size+1<=wr.heap.size):=⟨cD.1,a5.o.bz⟩
   generalize rnm _ v=nv at HE ab;have bW:=eP (lo:=ag.heap.size) (hi:=ag.heap.size+1) (wr.alloc (fB v.op v.len v.a v.b v.c v.k)) ⟨ag.heap.size,i,none⟩ (hD (S.1.length:Nat)) yac;obtain⟨bI,bB,bE,b6,ct,bo⟩:=At.keep bn.o xac bW xaa;obtain⟨bC,aN,a2,bk,bq,co⟩:=bn.o;simp only[Nat.zero_add]at bB bE b6 ct bo aN a2 bk bq co;obtain⟨bb,aM,aQ,bY,cg,cn⟩:=be;have aB:V _:=(a5.o.own)
   clear hb c8 Q bX ae Y P ai cD aD t bW;go_wp2_with fail;refine yaj (ab.o _ (Kept.refl _ _ _)) ?_;rintro e ci ⟨rfl,(cO:V _)⟩;have d0:V _:=(eR (eJ (cy.o.own.alloc _) (λc=>by have:=aY.o;simp[Value.ownBlock]at c;omega)) cO.o).alloc (.cells #[hD nv.op,hD nv.len,hD nv.a,hD nv.b,hD nv.c,.float .f64 nv.k] 60);have ak:V _:=vg ci nv 0;have aU:ag.heap.size+1<=ci.heap.size:=by have B:=cO.o.size;have J:=aY.o;simp at B;omega
   clear bI bB bE b6 ct bo bb aM aQ bY cg cn bC aN a2 bk bq co cr di cb a7;go_wp2_with (first|(at_builtin;refine wpList_append_lies _ rfl _ _ _ rfl _ 60 _ _ 6 _ underlying24 eB a6 b8 b5 rfl xab _ _ _ (by rfl) d0.o _ 1 1 _ (by rfl) rfl ak.o (AD _) xab (by unfold maxLen;omega) xaa yag (ci.heap.size+1) xac ?_;intro g9 cap9 bg bQ a0 cd bO));have U:V _:=DI.next cy.o (ez 0 0 _ _) cO.o yaf bQ a0 aY.o.1;clear bQ a0 cd bO;go_roundw;exact⟨i+1,g9,cap9,by omega,by rw[HE.o];simp,by go_num,hO HE.o U⟩;simp[intOf];omega
  obtain rfl:i=T:=xaa;have cV:=a5.o.ch.size;have cR:=av.o;have Q:=oO (ndI vs outs i) vs i;obtain⟨(am:V _),(dp:V _)⟩:=AI a5.o.own rfl;have g:V _:=IR.isAt a5.o.tq a5.o.tl;have m:V _:=G0.keepC bK.o a5.o.ch xaa;have bS:V _:=RB.keepC ar.o a5.o.ch xaa;have aw:V _:=RB.keepC cK.o a5.o.ch xaa;have q:V _:=IBk.keepC cf.o.i a5.o.ch (hM aX.o);have aR:V _:=IBk.keepC cf.o.o a5.o.ch (hM aX.o);have bu:V _:=IW _ O ax _ n1 c1 i c2 _ _ c3 _ _ _ i i _ _ aR.o g.o (hM aX.o) cX.o xaa H3.o;have cq:V (Chg (λb=>b=ap\/b=bM) w _):=Chg.new b0.o.chg a5.o.ch (λb hb c=>by omega);have aa:V (kU vs outs=((gI (ndI vs outs i) vs i).1,kH (gI (ndI vs outs i) vs i).2 outs)):=by show _=_;unfold kU;rw[HL.o]
  have au:V _:=pC cw.o (ndI vs outs i) i;clear a5;obtain⟨_,a8,aV,p2⟩:=m.o;go_wp2_with fail;clear a8 aV p2;refine yaj bu.o ?_;rintro e br ⟨rfl,N,ah⟩;generalize az:gI _ _ i=S at am g aa au N Q⊢;have y:V _:=G0.keepT m.o ah (hM aX.o);have b9:V _:=am.o.keep ah (hN aX.o dp.o);have bJ:V _:=q.o.keep ah (hM aX.o);have ad:V _:=N;have bD:V _:=Chg.trans cq.o (ah.chg1 (.inr rfl));have bz:V _:=RB.keepC bS.o (ah.chg1 rfl) (hM aX.o);have aH:V _:=RB.keepC aw.o (ah.chg1 rfl) (hM aX.o);clear N bu m am g q aR cq az;obtain⟨_,a8,aV,p2,bF,a9,ba⟩:=aH.o;obtain⟨_,bm,ay,aW,bG,f1,f2⟩:=bz.o;have af:w.heap.size+1≠w.heap.size:=xaa;go_wp2_with fail;have bZ:=eP (lo:=w.heap.size) (hi:=w.heap.size+1) br ⟨w.heap.size,1,none⟩ (hC gk S.1.length cap) yac;have F:=RB.keepC bz.o (bZ.chg1 rfl) xaa;obtain⟨bb,aM,aQ⟩:=eZ _ _ _ _ _ F.q0 F.q1 F.q2 (.slice O n1 c1) (hC gk S.1.length cap) (.slice Z n3 c3);have K:=fg (br.setCell ⟨w.heap.size,1,none⟩ (hC gk S.1.length cap)) (w.heap.size+1) (.slice O n1 c1) (hC gk S.1.length cap) (.slice Z n3 c3);refine yaz (v:=eV O n1 c1 (some ⟨gk,0,none⟩) S.1.length cap Z n3 c3) (by simp[results,results54,go_sem,bb,aM,aQ]) rfl ⟨gk,S.1.length,cap,S.1,rfl,⟨?_,?_,?_,?_,?_,?_⟩,?_,au.o,?_,.inr (hM dp.o)⟩
  ·exact(bJ.o.keep bZ (hM aX.o)).keep K (hM aX.o)
  ·exact(b9.o.keep bZ (hM dp.o)).keep K (hM dp.o)
  ·rw[aa.o];exact(ad.o.keep bZ (hM aX.o)).keep K (hM aX.o)
  ·have:=aX.o;have:=dp.o;omega
  ·exact aX.o.2.2.2.2.1
  ·have:=aX.o;have:=dp.o;omega
  ·rw[aa.o]
  exact Chg.new (Chg.new bD.o (bZ.chg1 rfl) (λb hb c=>by omega)) (K.chg1 rfl) (λb hb c=>by omega)):Zp:=h
open dB in
theorem PE(w O ax Z bA n1 c1 ap T c2 bM n3 c3 ins vs outs)(hP:PG w bA ap bM n1 T n3 ins vs outs)(bN:okG ins vs outs=true)(s:Kb vs)(J:0<T->ax=some ⟨ap,0,none⟩)(h3:0<n3->Z=some ⟨bM,0,none⟩):
  Calls prog 54 #[eV O n1 c1 ax T c2 Z n3 c3] w λe I=>POg w O Z bA n1 c1 ap bM n3 c3 ins (kU vs outs) e I:=by
 obtain⟨b3,eB,a6,b8,b5⟩:=info_parts sc;obtain⟨⟨ck,cz,cA⟩,_,aD,al,_⟩:=fW bN;have cu:=hP.v.len;have cH:=hP.o.len;have ce:T<=2000:=xaa;have cS:n3<=50:=xaa;have bL:V (∀j,j<T->_):=λj hj=>aD j xaa;have cX:V (∀o∈outs,0<=o/\o<T):=λo h=>hM (al o h)
 have HL:V _:=cu;have cw:V _:=s;have an:=ez 0 0 w (eW O n1 c1 ax T c2 Z n3 c3);have aS:=ft w (.slice O n1 c1) (.slice ax T c2) (.slice Z n3 c3);have bp:=rL w (.slice O n1 c1) (.slice ax T c2) (.slice Z n3 c3);have bi:(w.alloc (eW O n1 c1 ax T c2 Z n3 c3)).heap.size=w.heap.size+1:=by simp
 have aj:=ez 0 0 (w.alloc (eW O n1 c1 ax T c2 Z n3 c3)) fj;have C:=fF (w.alloc (eW O n1 c1 ax T c2 Z n3 c3));rw[bi]at C;have aA:V _:=aS.keep aj;have aI:V _:=bp.keep aj;have HR:V _:=C;have bV:V _:=hP.keep (an.trans aj);have HK:V _:=an.trans aj;have u:V (((w.alloc (eW O n1 c1 ax T c2 Z n3 c3)).alloc fj).heap.size=w.heap.size+1+1):=by show _=_;simp
 have r:V _:=Lw _ O _ _ n1 c1 _ _ c2 _ _ c3 _ _ (hP.v.keep (an.trans aj) yaa) (hP.o.keep (an.trans aj) yaa) (λi hi=>i6 (aD i xaa)) (λo h=>hM (al o h)) ce xaa J h3;exact qep
def LsI(w:World)(b:Option Addr)(n c:Nat)(xs:List Int):Prop:=xs.length=n/\((b=none/\n=0/\c=0)\/∃g,b=some ⟨g,0,none⟩/\IE w g xs)
def LsV(w:World)(b:Option Addr)(n c:Nat)(vs:List Vl):Prop:=vs.length=n/\((b=none/\n=0/\c=0)\/∃g,b=some ⟨g,0,none⟩/\VA w g n vs)
theorem LsI.keep(h:LsI w b n c xs)(k:Kept 0 0 w I):LsI I b n c xs:=⟨h.1,h.2.imp id λ⟨g,e,f⟩=>⟨g,e,f.keep k yaa⟩⟩
theorem LsV.keep{vs}(h:LsV w b n c vs)(k:Kept 0 0 w I):LsV I b n c vs:=⟨h.1,h.2.imp id λ⟨g,e,f⟩=>⟨g,e,f.keep k yaa⟩⟩
theorem LsI.is(h:LsI w b n c xs):IS w 0 w.heap.size b n xs:=by
 obtain⟨rfl,⟨rfl,ae,_⟩|⟨g,rfl,f⟩⟩:=h
 ·exact⟨rfl,.inl ae⟩
 exact f.is
theorem LsV.vs{vs}(h:LsV w b n c vs)(N:Kb vs):VS w 0 w.heap.size b n vs:=by
 obtain⟨ab,⟨rfl,ae,_⟩|⟨g,rfl,f⟩⟩:=h
 ·exact⟨ab,N,.inl ae⟩
 exact f.vs N
theorem wk{W}(h:W.ownsRow R 3 1 (.slice a n c) n (xs.map (Value.int .i64)))(ab:xs.length=n):LsI W a n c xs:=by
 refine⟨ab,?_⟩;rcases h.2 with⟨e,ae⟩|⟨g,cap,H,e,_⟩
 ·cases e;exact .inl ⟨rfl,rfl,rfl⟩
 cases e;have q:=BS h ab;exact .inr ⟨g,rfl,q.lt,λk N=>q.at_ k xaa⟩
theorem IX{W vs}(h:W.ownsRow R 60 6 (.slice a n c) n (fK vs))(ab:vs.length=n):LsV W a n c vs:=by
 refine⟨ab,?_⟩;rcases h.2 with⟨e,ae⟩|⟨g,cap,H,e,_⟩
 ·cases e;exact .inl ⟨rfl,rfl,rfl⟩
 cases e;exact .inr ⟨g,rfl,(AI h ab).1⟩
theorem CG(h:LsI w b n c xs)(hn:n<=1000000):Calls prog 59 #[.slice b n c] w λe I=>∃R d,e=.returned (.slice R n d)/\I.ownsRow w.heap.size 3 1 (.slice R n d) n (xs.map (Value.int .i64))/\Kept 0 0 w I:=by
 obtain⟨ab,⟨rfl,rfl,rfl⟩|⟨g,rfl,f⟩⟩:=h
 ·obtain rfl:=List.eq_nil_of_length_eq_zero ab
  have i:(binOp .eql 23 (.slice none 0 0) (.slice none 0 0)).run prog w=.ok (.bool true) w:=by
   simp only[binOp];simp[run_equal_slice_nil w 23 3 none 0 0 underlying23]
  go_enter func59,ntmps59;exact xif
 exact(ME w g n c _ hn f ab).mono λe I ⟨G,_,B,_,_,J,h3⟩=>⟨_,_,B,J,h3⟩
theorem Lx{vs}(h:LsV w b n c vs)(hn:n<=1000000):Calls prog 60 #[.slice b n c] w λe I=>∃R d,e=.returned (.slice R n d)/\I.ownsRow w.heap.size 60 6 (.slice R n d) n (fK vs)/\Kept 0 0 w I:=by
 obtain⟨ab,⟨rfl,rfl,rfl⟩|⟨g,rfl,f⟩⟩:=h
 ·obtain rfl:=List.eq_nil_of_length_eq_zero ab
  have i:(binOp .eql 24 (.slice none 0 0) (.slice none 0 0)).run prog w=.ok (.bool true) w:=by
   simp only[binOp];simp[run_equal_slice_nil w 24 60 none 0 0 underlying24]
  go_enter func60,ntmps60;exact xif
 exact(MF w g n c _ hn f).mono λe I ⟨G,_,B,_,_,J,h3⟩=>⟨_,_,B,J,h3⟩
theorem BC(w:World)(xs bl):IBk (w.alloc (.cells xs bl)) w.heap.size 0 []:=⟨rfl,by simp,λk N=>by omega,λo=>World.frozen?_alloc_at _ _ w.heap.size o rfl⟩
theorem PF(w O ax Z n1 c1 T c2 n3 c3 ins vs outs)(B:LsI w O n1 c1 ins)(J:LsV w ax T c2 vs)(h3:LsI w Z n3 c3 outs)(b1:n1<=1000000)(ce:T<=2000)(a9:n3<=1000000):
  Calls prog 26 #[eV O n1 c1 ax T c2 Z n3 c3] w λe I=>∃am d1 aB d2 bc d3,e=.returned (eV am n1 d1 aB T d2 bc n3 d3)/\(I.ownsRow (w.heap.size+2) 3 1 (.slice am n1 d1) n1 (ins.map (Value.int .i64))/\I.ownsRow (w.heap.size+2) 60 6 (.slice aB T d2) T (fK vs)/\I.ownsRow (w.heap.size+2) 3 1 (.slice bc n3 d3) n3 (outs.map (Value.int .i64)))/\(Apart (.slice am n1 d1) (.slice aB T d2)/\Apart (.slice am n1 d1) (.slice bc n3 d3)/\Apart (.slice aB T d2) (.slice bc n3 d3))/\(IBk I w.heap.size 0 []/\IBk I (w.heap.size+1) 0 [])/\Kept 0 0 w I:=by
 have an:=ez 0 0 w (eW O n1 c1 ax T c2 Z n3 c3);have v:=ez 0 0 (w.alloc (eW O n1 c1 ax T c2 Z n3 c3)) fj;have aA:V _:=(ft w _ _ _).keep v;have bi:(w.alloc (eW O n1 c1 ax T c2 Z n3 c3)).heap.size=w.heap.size+1:=by simp
 have C:=fF (w.alloc (eW O n1 c1 ax T c2 Z n3 c3));have bv:=BC (w.alloc (eW O n1 c1 ax T c2 Z n3 c3)) #[.slice none 0 0,.slice none 0 0,.slice none 0 0] 26;rw[bi]at C bv;have HR:V _:=C;have aX:V _:=bv;have ab:V _:=(BC w _ _).keep v yaa;have HK:V _:=an.trans v;have bP:V _:=B.keep (an.trans v);have bJ:V _:=J.keep (an.trans v);have q:V _:=h3.keep (an.trans v);have b7:V (((w.alloc (eW O n1 c1 ax T c2 Z n3 c3)).alloc fj).heap.size=w.heap.size+1+1):=by show _=_;simp
 clear B J h3 an v bi C bv;obtain⟨_,bd,aL,aJ⟩:=aA.o;go_enter func26,ntmps26;go_wp2_with fail;generalize (w.alloc _).alloc _=aO at aA HR HK bP bJ q b7 aX ab bd aL aJ⊢;have af:w.heap.size≠w.heap.size+1:=xaa
 go_region_held3 (λI=>I.cell? ⟨w.heap.size,0,none⟩=some (.slice O n1 c1)/\I.cell? ⟨w.heap.size,1,none⟩=some (.slice ax T c2)/\I.cell? ⟨w.heap.size,2,none⟩=some (.slice Z n3 c3)) (first|go_keep|(simp only[Ft _ _ _ _ _ _ _ af];exact⟨bm,ay,aW⟩))
  (first
   |(go_at_call 59;refine yaj (CG (LsI.keep q.o l) a9) ?_;rintro e bj ⟨bc,d3,rfl,a5,aF⟩;have f:=Kept.trans l aF;obtain⟨_,bm,ay,aW⟩:=G0.keep aA.o f;obtain⟨_,b9,bK,cr,bG,f1,f2⟩:=RB.keep HR.o f)
   |(go_at_call 60;refine yaj (Lx (LsV.keep bJ.o j) xaa) ?_;rintro e a7 ⟨aB,d2,rfl,bO,ah⟩;have l:=Kept.trans j ah;obtain⟨_,bf,aP,aY⟩:=G0.keep aA.o l)
   |(go_at_call 59;refine yaj (CG (LsI.keep bP.o (eK 0 0 _ 1)) b1) ?_;rintro e ag ⟨am,d1,rfl,ch,aj⟩;have j:=Kept.trans (eK 0 0 _ 1) aj;obtain⟨_,aT,ao,aG⟩:=G0.keep aA.o j))
 have b8:(aO.drewN 1).heap.size=w.heap.size+1+1:=b7.o;have a6:aO.drew.heap.size=w.heap.size+1+1:=b7.o;have b5:(aO.drewN 1).heap.size<=ag.heap.size:=aj.size;have z:=ah.size;have aa:V (Apart _ _/\Apart _ _/\Apart (.slice _ _ _) _):=⟨mW ch bO yad,mW ch a5 z,mW bO a5 yad⟩
 have H1:V (bj.ownsRow (w.heap.size+2) 3 1 _ _ _):=je (eR ch (ah.trans aF)) xaa;have H2:V (bj.ownsRow (w.heap.size+2) _ 6 _ _ _):=je (eR bO aF) xaa;have H3:V (bj.ownsRow (w.heap.size+2) 3 1 _ _ _):=je a5 xaa;have b0:V _:=HK.o.trans f;have eS:V _:=aX.o.keep f yaa;have dd:V _:=ab.o.keep f yaa;clear bd aL aJ aT ao aG bf aP aY bm ay aW ch bO a5 aj ah aF j l f a6 b8 b5 z bP bJ q aA;go_wp2_with fail;obtain⟨bb,aM,aQ⟩:=eZ _ _ _ _ _ b9 bK cr (.slice am n1 d1) (.slice aB T d2) (.slice bc n3 d3);have K:=fg bj (w.heap.size+1) (.slice am n1 d1) (.slice aB T d2) (.slice bc n3 d3);have own:∀{u:Value}{xs:List _}{m e s:Nat},bj.ownsRow _ e s u m _->(fw bj _ _ _ _).ownsRow (w.heap.size+2) e s u m xs:=λo=>fX o K λb hb=>hM ((eH o hb).1)
 refine yaz (v:=eV am n1 d1 aB T d2 bc n3 d3) (by simp[results,results26,go_sem,bb,aM,aQ]) rfl ⟨am,d1,aB,d2,bc,d3,rfl,⟨own H1.o,own H2.o,own H3.o⟩,aa.o,⟨dd.o.keep K xaa,rfl,yak eS.o.lt K.size,λk N=>by omega,λo=>?_⟩,b0.o.new K xaa⟩;have:=eS.o.free o;simpa using this
def Sl(b:Option Addr)(n c g:Nat):Prop:=(b=none/\n=0/\c=0)\/b=some ⟨g,0,none⟩
theorem Sl.pos{g}(h:Sl b n c g)(hn:0<n):b=some ⟨g,0,none⟩:=by
 rcases h with⟨_,ae,_⟩|h
 ·omega
 exact h
end
section
open Go.RowKit Flt
attribute[local go_sem] eG eE eD kO
variable{base n s d:Nat}{R:Option Addr}{xs:List Int}
theorem Sl.ni{w b c g}(h:Sl b n c g)(f:IBk w g n xs):LsI w b n c xs:=⟨f.len,h.imp id λe=>⟨g,e,f.lt,λk N=>f.at_ k (hQ f.len N)⟩⟩
theorem IY{W}(h:W.ownsRow base 3 1 (.slice R n d) n (xs.map (Value.int .i64)))(ab:xs.length=n)(g:IBk W s 0 []):∃G,IBk W G n xs/\Sl R n d G/\((G=s/\R=none)\/(base<=G/\R=some ⟨G,0,none⟩)):=by
 rcases h.2 with⟨e,ae⟩|⟨aB,cap,H,e,O,_⟩
 ·cases e;obtain rfl:=List.eq_nil_of_length_eq_zero ab;exact⟨s,g,.inl ⟨rfl,rfl,rfl⟩,.inl ⟨rfl,rfl⟩⟩
 cases e;exact⟨_,BS h ab,.inr rfl,.inr ⟨O,rfl⟩⟩
theorem Ly{W vs}(h:W.ownsRow base 60 6 (.slice R n d) n (fK vs))(ab:vs.length=n)(g:IBk W s 0 []):∃G,VA W G n vs/\Sl R n d G/\((G=s/\R=none)\/(base<=G/\R=some ⟨G,0,none⟩)):=by
 rcases h.2 with⟨e,ae⟩|⟨aB,cap,H,e,O,_⟩
 ·cases e;obtain rfl:=List.eq_nil_of_length_eq_zero ab;exact⟨s,⟨rfl,g.lt,λk N=>by omega,g.free⟩,.inl ⟨rfl,rfl,rfl⟩,.inl ⟨rfl,rfl⟩⟩
 cases e;exact⟨_,(AI h ab).1,.inr rfl,.inr ⟨O,rfl⟩⟩
theorem I0{a b t A m e}(aU:(a=s/\A=none)\/(base<=a/\A=some ⟨a,0,none⟩))(aS:(b=t/\R=none)\/(base<=b/\R=some ⟨b,0,none⟩))(ar:s≠t/\s<base/\t<base)(bU:Apart (.slice A n d) (.slice R m e)):a≠b:=by
 rcases aU with⟨B,_⟩|⟨B,rfl⟩<;>rcases aS with⟨J,_⟩|⟨J,rfl⟩
 ·omega
 ·omega
 ·omega
 intro c;exact bU a rfl (hS c)
end
section
open Go.RowKit Flt Go.Maps
attribute[local go_sem] eG eE eD
theorem w.qah(h:Zp:=by
 have b8:((w.alloc (eW O n1 c1 ax T c2 Z n3 c3)).alloc fj).heap.size=w.heap.size+1+1:=by simp
 have aq:=rx T ((w.alloc (eW O n1 c1 ax T c2 Z n3 c3)).alloc fj) xaa;have bh:=IR.made ((w.alloc (eW O n1 c1 ax T c2 Z n3 c3)).alloc fj) T;have ah:=ez 0 0 ((w.alloc (eW O n1 c1 ax T c2 Z n3 c3)).alloc fj) (.cells (madeCells #[hD 0] T) 3);exact qgn):Zp:=h
theorem w.qeq(h:Zp:=by
 have au:V _:=aZ;have bW:V _:=a6;have bc:V _:=bT;have cG:V _:=a6 0 _ _ ae ((an.trans aj).trans ah).chg;have H:V (w.heap.size+3<=(((w.alloc (eW O n1 c1 ax T c2 Z n3 c3)).alloc fj).alloc (.cells (madeCells #[hD 0] T) 3)).heap.size):=by show _<=_;simp
 have H2:V _:=J;have H3:V _:=h3;clear J h3 hP bN ck cz cA aD al cu cH aZ a6 bT ae bh C bi b8 an aj ah;obtain⟨_,aT,ao,aG⟩:=aS;obtain⟨_,bd,aL,aJ⟩:=aA.o;have bk:=(aA.o).q1;go_enter func88,ntmps88;go_wp2_with fail;clear bd aL aJ aT ao aG aq bk;generalize ((w.alloc _).alloc _).alloc _=aO at aA HR bV HK b1 cG H⊢;go_loopw [15] (λx W=>∃i:Nat,i<=T/\x=hD i/\V (VA W ap T ((fA p vs i).1++vs.drop i))/\V (IR W (w.heap.size+1+1) ((fA p vs i).2++List.replicate (T-i) 0))/\V (k i W)/\V (Chg (λb=>b=ap\/b=w.heap.size+1+1\/S b) aO W)) (λx _=>T-(intOf x).toNat)
 case atStart=>exact⟨0,yae,rfl,by show VA _ _ _ _;simpa[fA] using bV.o.v,by show IR _ _ _;rw[Nat.sub_zero];exact b1.o,cG,Chg.refl _ _⟩
 case round=>
  obtain⟨i,hi,rfl,aU,aa,bw,aw⟩:=hrel;clear cG b1;by_cases aC:i<T
  ·obtain rfl:=H2.o xaa;have n:=HE.o i xaa;have E1:=HE.o (i+1) aC;have cV:=aw.o.size;have cR:=H.o;have be:=aU.o.at_ i aC;have a5:((fA p _ i).1++vs.drop i).getD i _=vs.getD i _:=FA n.l1;rw[a5]at be;have t:V _:=be;have bX:=i6 (bL.o i aC);have cF:ap≠w.heap.size:=by have:=aX.o;omega
   have bP:ap≠wr.heap.size:=hM aX.o
   have cQ:V _:=G0.keepC aA.o aw.o (by rintro (c|c|c)<;>first|omega|(have:=(au.o _ c).1;omega))
   have ab:V (∀W,Kept 0 0 _ W->_):=λW l=>by
    have:=LU W (vs.getD i hI) _ _ (some ⟨w.heap.size+1+1,0,none⟩) T T _ (IR.isAt (IR.keep aa.o l yaa) (by simp[n.l2];omega)) (λo h=>hM (bX o h))
    rw[Jm (λo h=>by have:=bX o h;rw[n.l2];omega)]at this
    exact this
   have aK:V (∀W,VA W _ _ _->VA _ ap _ ((fA p _ (i+1)).1++vs.drop _)):=λW h=>by
    have:=h.step i aC (rnm (fA p vs i).2 (vs.getD i hI))
    rw[sN n.l1 (hO HL.o.1 aC)]at this
    exact this
   have ar:∃r:Nat,fQ p (fA p vs i).1 (rnm (fA p vs i).2 (vs.getD i hI)) i=r/\r<=i/\(fA p vs (i+1)).2.getD r 0=r:=by
    have af:(fA p vs (i+1)).2.getD i 0=fQ p (fA p vs i).1 (rnm (fA p vs i).2 (vs.getD i hI)) i:=by
     have:=nz (fA p vs i).2 (fQ p (fA p vs i).1 (rnm (fA p vs i).2 (vs.getD i hI)) i);rw[n.l2]at this;exact this
    have B:=E1.to0 i yaf;have J:=E1.root i yaf;rw[af]at B J;exact⟨_,(Int.toNat_of_nonneg B.1).symm,by omega,by rw[J];exact(Int.toNat_of_nonneg B.1).symm⟩
   obtain⟨r,av,bj,ba⟩:=ar;have az:V _:=MK (bc.o i) aC av;have R:V ((fA p _ (i+1)).2=(fA p _ i).2++[(r:Int)]/\(fA p _ i).2.length=i):=⟨by rw[<-av];rfl,n.l2⟩
   have a2:V _:=λh=>by
    have:=ba
    rw[R.o.1,pq _ _ (hO n.l2 h)]at this
    exact this
   clear n E1 a5 bX av ba;generalize vs.getD i _=v at be t ab aK az;generalize bl:rnm _ v=nv at ab aK;clear bl;obtain⟨bb,aM,aQ,bY,cg,cn⟩:=be;obtain⟨_,a8,aV,p2⟩:=cQ.o;go_wp2_with fail;clear bb aM aQ bY cg cn a8 aV p2;have bx:=ez 0 0 wr (fB v.op v.len v.a v.b v.c v.k);have f:V _:=bx;have bn:V _:=i5 wr v;have cx:V _:=cQ.o.keep bx;have ai:V _:=aU.o.keep bx yaa;exact qgx
  obtain rfl:i=T:=xaa;have cV:=aw.o.size;have cR:=H.o;have n:=HE.o i yad;have cd:∀b,w.heap.size<=b->¬S b:=λb hb c=>hM ((au.o _ c).1)
  have am:V (VA wr ap i (fA p vs i).1):=by
   have:=aU.o;rw[List.drop_of_length_le (hR HL.o.1),List.append_nil]at this;exact this
  have g:V (IS wr (w.heap.size+1+1) (w.heap.size+1+1+1) (some ⟨w.heap.size+1+1,0,none⟩) i (fA p vs i).2):=by
   have:=aa.o;rw[Nat.sub_self,List.replicate_zero,List.append_nil]at this;exact this.isAt n.l2
  have m:V _:=G0.keepC aA.o aw.o (by rintro (c|c|c)<;>first|(have:=aX.o;omega)|exact cd _ xaa c);have bS:V _:=RB.keepC HR.o aw.o (by rintro (c|c|c)<;>first|(have:=aX.o;omega)|exact cd _ xaa c);have q:V _:=IBk.keepC bV.o.i aw.o (by rintro (c|c|c)<;>first|(have:=aX.o;omega)|exact(au.o _ c).2.1 rfl);have aR:V _:=IBk.keepC bV.o.o aw.o (by rintro (c|c|c)<;>first|(have:=aX.o;omega)|exact(au.o _ c).2.2.2 rfl);have bu:V _:=IW _ O ax _ n1 c1 i c2 _ _ c3 _ _ _ i i _ _ aR.o g.o (hM aX.o) cX.o xaa H3.o;have cq:V (Chg (λb=>b=ap\/b=bM\/S b) w _):=Chg.new HK.o.chg aw.o (λb hb c=>by rcases c with c|c|c<;>first|exact .inl c|exact .inr (.inr c)|omega);clear n aU aa bw aw HR aA;obtain⟨_,a8,aV,p2⟩:=m.o;go_wp2_with fail;clear a8 aV p2;refine yaj bu.o ?_;rintro e ag ⟨rfl,(ad:V _),ah⟩;have y:V _:=G0.keepT m.o ah (hM aX.o);have b9:V _:=am.o.keep ah (hM aX.o);have bJ:V _:=q.o.keep ah (hM aX.o);have bD:V _:=Chg.trans cq.o (ah.chg1 (.inr (.inl rfl)));have bz:V _:=RB.keepC bS.o (ah.chg1 rfl) (hM aX.o);clear bu m am g q aR cq;obtain⟨_,a8,aV,p2⟩:=y.o;obtain⟨_,bm,ay,aW,bG,f1,f2⟩:=bz.o;go_wp2_with fail;obtain⟨bb,aM,aQ⟩:=eZ _ _ _ _ _ bm ay aW (.slice O n1 c1) (.slice ax i c2) (.slice Z n3 c3);have K:=fg ag (w.heap.size+1) (.slice O n1 c1) (.slice ax i c2) (.slice Z n3 c3);refine yaz (v:=eV O n1 c1 ax i c2 Z n3 c3) (by simp[results,results88,go_sem,bb,aM,aQ]) rfl ⟨rfl,⟨?_,?_,?_,?_,?_,?_⟩,?_⟩
  ·exact bJ.o.keep K (hM aX.o)
  ·have:=b9.o.keep K (hM aX.o);unfold eqM;rw[HL.o.1];exact this
  ·have:=ad.o.keep K (hM aX.o);unfold eqM;rw[HL.o.1];exact this
  ·exact aX.o.2.2.2.1
  ·exact aX.o.2.2.2.2.1
  ·exact aX.o.2.2.2.2.2
  exact Chg.new bD.o (K.chg1 rfl) (λb hb c=>by omega)):Zp:=h
theorem w.qgo(h:Zp:=by
 exact qep):Zp:=h
theorem w.qgy(h:Zp:=by
 obtain⟨_,a8,aV,p2⟩:=cx.o;obtain⟨bI,bB,bE,b6,ct,bo⟩:=bn.o;simp only[Nat.zero_add]at bB bE b6 ct bo;clear bx;generalize wr.alloc _=ag at f bn cx ai cM a8 aV p2 bI bB bE b6 ct bo⊢
 go_region_held3 (λW:World=>W.cell? ⟨w.heap.size,1,none⟩=some (hC ap T c2)/\W.cell? ⟨wr.heap.size,0,none⟩=some (hD v.op)/\W.cell? ⟨wr.heap.size,1,none⟩=some (hD v.len)/\W.cell? ⟨wr.heap.size,2,none⟩=some (hD v.a)/\W.cell? ⟨wr.heap.size,3,none⟩=some (hD v.b)/\W.cell? ⟨wr.heap.size,4,none⟩=some (hD v.c)/\W.cell? ⟨wr.heap.size,5,none⟩=some (.float .f64 v.k)) (first|go_keep|(exact⟨(iO a7 ap (i*6) _ _ nv (.inl cF)).trans aP,(iO a7 ap (i*6) _ _ nv (.inl bP)).trans aT,(iO a7 ap (i*6) _ _ nv (.inl bP)).trans ao,(iO a7 ap (i*6) _ _ nv (.inl bP)).trans aG,(iO a7 ap (i*6) _ _ nv (.inl bP)).trans Q,(iO a7 ap (i*6) _ _ nv (.inl bP)).trans cf,(iO a7 ap (i*6) _ _ nv (.inl bP)).trans bv⟩))
  ((go_at_call 86;refine yaj (ab.o _ (f.o.trans (eK 0 0 _ 1))) ?_;rintro e a7 ⟨rfl,aF⟩;have Y:=Kept.trans (eK 0 0 _ 1) aF;obtain⟨_,bf,aP,aY⟩:=G0.keep cx.o Y;obtain⟨aT,ao,aG,Q,cf,bv⟩:=At.keep bn.o cM.o Y yaa;simp only[Nat.zero_add]at ao aG Q cf bv;obtain⟨u0,u1,u2,u3,u4,u5⟩:=At.keep t.o aU.o.lt (f.o.trans Y) yaa;have b3:=(VA.keep ai.o Y yaa).free))
 have G:=f.o.trans Y;have K:Kept _ _ _ ((((((a7.setCell _ _).setCell _ _).setCell _ _).setCell _ _).setCell _ _).setCell _ _):=kY _ ap (i*6) nv;have a0:V (VA ((((((a7.setCell _ _).setCell _ _).setCell _ _).setCell _ _).setCell _ _).setCell _ _) _ _ _):=aK.o _ (VA.keep ai.o Y yaa);have P:V (IR _ _ _):=(IR.keep aa.o G yaa).keep K (hM aX.o);have ak:V _:=bW.o i _ _ bw.o (Chg.trans G.chg (K.chg1 (.inl rfl)));have cO:V _:=Chg.trans aw.o (Chg.trans G.chg (K.chg1 (.inl rfl)));have cJ:V _:=G0.keepT (G0.keep cx.o Y) K (hM aX.o);generalize ((((((a7.setCell _ _).setCell _ _).setCell _ _).setCell _ _).setCell _ _).setCell _ _)=ci at a0 P ak cO cJ⊢;clear G K aF Y bf aP aY aT ao aG Q cf bv u0 u1 u2 u3 u4 u5 b3 a8 aV p2 bI bB bE b6 ct bo f bn cx ai cM t ab aK aU aa bw aw;obtain⟨_,a8,aV,p2⟩:=cJ.o;have cr:=P.o.cell i (by rw[yal,List.length_replicate,R.o.2];omega);have di:=P.o.free i;generalize ((fA p _ i).2++List.replicate _ 0).getD i 0=cW at cr;go_wp2_with fail;have s:=eP (lo:=w.heap.size+1+1) (hi:=w.heap.size+1+1+1) ci ⟨w.heap.size+1+1,i,none⟩ (hD (i:Nat)) yac;have aN:V _:=IR.set P.o i i;have aI:V _:=bW.o i _ _ ak.o (s.chg1 (.inr xaa));have aB:V _:=a0.o.keep s (hM aX.o);have aH:V _:=Chg.trans cO.o (s.chg1 (.inr (.inl rfl)));generalize ci.setCell _ _=b5 at aN aI aB aH⊢;clear s cr di a8 aV p2 cJ a0 P ak cO;refine yaj (az.o _ aI.o aB.o) ?_;rintro e bg ⟨rfl,X,a9⟩;have g:V _:=IR.keepC aN.o X (λc=>hM ((au.o _ c).1));have U:V _:=VA.keepC aB.o X (λc=>(au.o _ c).2.2.1 rfl);have cq:V _:=Chg.trans aH.o (X.mono λb _ c=>.inr (.inr c));have u:V _:=a9;have ch:=IR.cell g.o r (by rw[List.length_set,yal,List.length_replicate,R.o.2];omega);rw[O4 R.o.2 aC bj a2.o]at ch;have cr:=IR.cell g.o i (by rw[List.length_set,yal,List.length_replicate,R.o.2];omega);have di:=IR.free g.o i;generalize (((fA p _ i).2++List.replicate _ 0).set i _).getD i 0=cW at cr;have s:=eP (lo:=w.heap.size+1+1) (hi:=w.heap.size+1+1+1) bg ⟨_,i,none⟩ (hD r) yac;have R1:V _:=U.o.keep s (hM aX.o);have R2:V _:=IR.set g.o i r;rw[ML R.o.2 aC,<-R.o.1]at R2;have R3:V _:=bW.o _ _ _ u.o (s.chg1 (.inr xaa));have z:V _:=Chg.trans cq.o (s.chg1 (.inr (.inl rfl)));have bq:r<T:=xaa;clear s X a9 aN aI aB aH g U cq u az R a2;go_wp2;go_roundw;exact⟨i+1,by omega,by go_num,R1,R2,R3,z⟩;simp[intOf];omega):Zp:=h
open w in
theorem eqG(F:Nat)(cs)(bp:∀xs W,Sem.run prog (callFunc F xs) W=.ok (.enter F xs) W)(w O ax Z bA n1 c1 ap T c2 bM n3 c3 p ins vs outs S)(k:Nat->World->Prop)(hP:PG w bA ap bM n1 T n3 ins vs outs)(bN:okG ins vs outs=true)
  (aZ:∀b,S b->b<w.heap.size/\b≠bA/\b≠ap/\b≠bM) (ae:k 0 w) (a6:∀i W W',k i W->Chg (λb=>b=ap\/w.heap.size<=b) W W'->k i W')
  (bT:∀i W,i<T->k i W->VA W ap T ((fA p vs (i+1)).1++vs.drop (i+1))->Calls prog F (#[hC ap T c2,hD (i:Nat)]++cs) W λe I=>e=.returned (hD (fQ p (fA p vs i).1 (rnm (fA p vs i).2 (vs.getD i hI)) i))/\Chg S W I/\k (i+1) I) (J:0<T->ax=some ⟨ap,0,none⟩) (h3:0<n3->Z=some ⟨bM,0,none⟩):
  Calls prog 88 #[eV O n1 c1 ax T c2 Z n3 c3,.func (.func F) #[] cs] w λe I=>
   e=.returned (eV O n1 c1 ax T c2 Z n3 c3)/\PG I bA ap bM n1 T n3 ins (eqM p vs outs).1 (eqM p vs outs).2/\Chg (λb=>b=ap\/b=bM\/S b) w I:=by
 obtain⟨⟨ck,cz,cA⟩,_,aD,al,_⟩:=fW bN;have cu:=hP.v.len;have cH:=hP.o.len;have ce:T<=2000:=xaa;have cS:n3<=50:=xaa;have HE:V (∀i,i<=T->_):=λi hi=>lV _ _ p i (λj hj=>aD j xaa);have bL:V (∀j,j<T->_):=λj hj=>aD j xaa;have cX:V (∀o∈outs,0<=o/\o<T):=λo h=>hM (al o h)
 have HL:V (vs.length=T/\outs.length=n3):=⟨cu,cH⟩
 exact qag
def POk(w:World)(b1 b3:Option Addr)(g1 n1 c1 g2 g3 n3 c3:Nat)(ins:List Int)(M:List Vl×List Int)(e:Ending)(w':World):Prop:=
 ∃B2 G2 n2 c2 us,e=.returned (eV b1 n1 c1 B2 n2 c2 b3 n3 c3)/\Sl B2 n2 c2 G2/\PG w' g1 G2 g3 n1 n2 n3 ins us M.2/\Lk us M.1/\Kb us/\Chg (λb=>b=g2\/b=g3) w w'/\(G2=g2\/w.heap.size<=G2)
theorem x.qah(h:Zp:=by
 exact qge):Zp:=h
theorem x.qdv(h:Zp:=by
 refine yaz (v:=eV O n1 c1 ax T c2 Z n3 c3) (by simp[results,results57,go_sem,bb,aM,aQ]) rfl ⟨ax,ap,T,c2,(eqM 3 vs outs).1,rfl,H2.o,⟨?_,?_,?_,f.o.d12,f.o.d13,f.o.d23⟩,Lk.refl _,?_,?_,.inl rfl⟩
 ·exact f.o.i.keep K (hM aX.o)
 ·exact f.o.v.keep K (hM aX.o)
 ·exact f.o.o.keep K (hM aX.o)
 ·exact lG cw.o 3 _
 exact xfb):Zp:=h
theorem x.qgf(h:Zp:=by
 have bo:V _:=eqG 93 #[] (λ_ _=>rfl) ((w.alloc (eW O n1 c1 ax T c2 Z n3 c3)).alloc fj) O ax Z bA n1 c1 ap T c2 bM n3 c3 3 ins vs outs (λ_=>False) (λ_ _=>True) (hP.keep (an.trans aj)) bN (λ_ c=>c.elim) trivial (λ_ _ _ _ _=>trivial) (λi W hi _ ae=>by
  have E:=lV ins vs 3 i (λj hj=>aD j xaa)
  have bD:=pr E (aD i xaa)
  rw[rI]at ae
  refine(PZ W ap T c2 i _ ae hi ?_).mono ?_
  ·rw[qU E.l1]
   intro c
   have:=(bD _ (gm (v:=rnm (fA 3 vs i).2 (vs.getD i hI)) (by rw[c];decide))).1
   omega
  ·rw[qU E.l1,JU E.l1 (λo al=>(bD o al).1)]
   exact λe I h=>⟨h.1,h.2.chg,trivial⟩) J.pos h3
 have H2:V _:=J;have cw:V _:=s;clear J h3 hP bN aD cu an aj C bi s;obtain⟨_,a8,aV,p2⟩:=aA.o;go_enter func57,ntmps57;exact qhk):Zp:=h
theorem x.qhl(h:Zp:=by
 have bz:V _:=RB.keepC HR.o bF.o (by rintro (c|c|c)<;>first|(have:=aX.o;omega)|exact c);clear bo;exact qdu):Zp:=h
open x in
theorem Qh(w O ax Z bA n1 c1 ap T c2 bM n3 c3 ins vs outs)(hP:PG w bA ap bM n1 T n3 ins vs outs)(bN:okG ins vs outs=true)(s:Kb vs)(J:Sl ax T c2 ap)(h3:0<n3->Z=some ⟨bM,0,none⟩):
  Calls prog 57 #[eV O n1 c1 ax T c2 Z n3 c3] w λe I=>POk w O Z bA n1 c1 ap bM n3 c3 ins (eqM 3 vs outs) e I:=by
 exact qag
theorem y.qah(h:Zp:=by
 exact qge):Zp:=h
theorem y.qdv(h:Zp:=by
 refine yaz (v:=eV O n1 c1 ax T c2 Z n3 c3) (by simp[results,results58,go_sem,bb,aM,aQ]) rfl ⟨ax,ap,T,c2,(eqM 4 vs outs).1,rfl,H2.o,⟨?_,?_,?_,f.o.d12,f.o.d13,f.o.d23⟩,Lk.refl _,?_,?_,.inl rfl⟩
 ·exact f.o.i.keep K (hM aX.o)
 ·exact f.o.v.keep K (hM aX.o)
 ·exact f.o.o.keep K (hM aX.o)
 ·exact lG cw.o 4 _
 exact xfb):Zp:=h
theorem y.qgf(h:Zp:=by
 have bo:V _:=eqG 94 #[] (λ_ _=>rfl) ((w.alloc (eW O n1 c1 ax T c2 Z n3 c3)).alloc fj) O ax Z bA n1 c1 ap T c2 bM n3 c3 4 ins vs outs (λ_=>False) (λ_ _=>True) (hP.keep (an.trans aj)) bN (λ_ c=>c.elim) trivial (λ_ _ _ _ _=>trivial) (λi W hi _ ae=>by
  have E:=lV ins vs 4 i (λj hj=>aD j xaa)
  have bD:=pr E (aD i xaa)
  rw[rI]at ae
  refine(O0 W ap T c2 i _ ae hi ?_).mono ?_
  ·rw[qU E.l1]
   intro c
   have ad:=vi c
   have B:=(bD _ (gm (v:=rnm (fA 4 vs i).2 (vs.getD i hI)) xaa)).1
   have J:=(bD _ (jd (v:=rnm (fA 4 vs i).2 (vs.getD i hI)) xaa)).1
   omega
  ·rw[qU E.l1,Gv E.l1 (λo al=>(bD o al).1)]
   exact λe I h=>⟨h.1,h.2.chg,trivial⟩) J.pos h3
 have H2:V _:=J;have cw:V _:=s;clear J h3 hP bN aD cu an aj C bi s;obtain⟨_,a8,aV,p2⟩:=aA.o;go_enter func58,ntmps58;exact qhk):Zp:=h
theorem y.qhl(h:Zp:=by
 have bz:V _:=RB.keepC HR.o bF.o (by rintro (c|c|c)<;>first|(have:=aX.o;omega)|exact c);clear bo;exact qdu):Zp:=h
open y in
theorem PH(w O ax Z bA n1 c1 ap T c2 bM n3 c3 ins vs outs)(hP:PG w bA ap bM n1 T n3 ins vs outs)(bN:okG ins vs outs=true)(s:Kb vs)(J:Sl ax T c2 ap)(h3:0<n3->Z=some ⟨bM,0,none⟩):
  Calls prog 58 #[eV O n1 c1 ax T c2 Z n3 c3] w λe I=>POk w O Z bA n1 c1 ap bM n3 c3 ins (eqM 4 vs outs) e I:=by
 exact qag
theorem z.qah(h:Zp:=by
 rw[bi]at C;generalize cc:(w.alloc (eW O n1 c1 ax T c2 Z n3 c3)).alloc fj=ag at aj C;have b5:ag.heap.size=w.heap.size+1+1:=by rw[<-cc];simp
 have ah:=ez 0 0 ag (.map #[] 0);have aF:=ez 0 0 (ag.alloc (.map #[] 0)) (.cells #[.map (some ag.heap.size)] 117);have al:=World.ownsMap_made ag prog 121 (plainElem (H:=Unit) prog 3);have z:(ag.alloc (.map #[] 0)).heap.size=ag.heap.size+1:=by simp
 have r:((ag.alloc (.map #[] 0)).alloc (.cells #[.map (some ag.heap.size)] 117)).heap.size=ag.heap.size+2:=by simp
 have k:CI ((ag.alloc (.map #[] 0)).alloc (.cells #[.map (some ag.heap.size)] 117)) (ag.heap.size+1) ag.heap.size 0 (fA 1 vs 0).1:=
  ⟨by omega,by rw[<-z];simp,al.alloc _⟩
 have aA:V _:=((aS.keep aj).keep ah).keep aF;have HR:V _:=(C.keep ah).keep aF;have HK:V _:=(an.trans aj).trans (ah.trans aF);have aX:V (bA<w.heap.size/\ap<w.heap.size/\bM<w.heap.size):=⟨hP.i.lt,hP.v.lt,hP.o.lt⟩
 have cu:=hP.v.len;obtain⟨⟨ck,cz,_⟩,_,aD,_,_⟩:=fW bN
 have bo:V _:=eqG 89 #[hB (ag.heap.size+1)] (λ_ _=>rfl) ((ag.alloc (.map #[] 0)).alloc (.cells #[.map (some ag.heap.size)] 117)) O ax Z bA n1 c1 ap T c2 bM n3 c3 1 ins vs outs (λb=>b=ag.heap.size) (λi W=>CI W (ag.heap.size+1) ag.heap.size i (fA 1 vs i).1) (hP.keep ((an.trans aj).trans (ah.trans aF))) bN
  (λb c=>by have:=hP.i.lt;have:=hP.v.lt;have:=hP.o.lt;omega) k
  (λi W W' h c=>h.keepC c (hM hP.v.lt) (hM hP.v.lt)) (λi W hi a6 ae=>by
  have E:=lV ins vs 1 i (λj hj=>aD j xaa)
  have E1:=lV ins vs 1 (i+1) (λj hj=>aD j xaa)
  have bZ:=lG s 1 (i+1)
  have l:∀j,j<i+1->_:=λj hj=>Nj (E1.ok j hj) xaa ck (λq am=>jB (E1.ok q xaa)) (bZ.at_ j)
  have b4:∀j,j<i->(fA 1 vs (i+1)).1.getD j hI=(fA 1 vs i).1.getD j hI:=λj hj=>gX _ _ (by rw[E.l1];exact hj)
  have af:(fA 1 vs (i+1)).1.getD i hI=rnm (fA 1 vs i).2 (vs.getD i hI):=by
   have:=ij (fA 1 vs i).1 (rnm (fA 1 vs i).2 (vs.getD i hI))
   rw[E.l1]at this
   exact this
  rw[rI]at ae
  refine(P7 W ap T c2 i (ag.heap.size+1) ag.heap.size _ _ _ ae E.l1 hi xaa a6 xaa (λj hj=>by rw[E.l1]at hj;rw[<-b4 j hj];exact l j xaa) (by rw[<-af];exact l i xaa)).mono ?_
  intro e I h
  refine⟨?_,h.2.1,h.2.2⟩
  rw[h.1]
  unfold fQ
  rw[hG rfl]) J.pos h3
 have H2:V _:=J;have cw:V _:=s;rw[b5]at aA HR HK bo;clear J h3 hP bN aD cu ck cz an aj ah aF C bi b5 z r s al k;have aP:=@run_makeMap prog;obtain⟨_,a8,aV,p2⟩:=aA.o;subst cc;go_enter func55,ntmps55;go_wp2_with fail;clear a8 aV p2 aS aP;generalize (((w.alloc (eW O n1 c1 ax T c2 Z n3 c3)).alloc fj).alloc (.map #[] 0)).alloc (.cells #[.map (some (w.heap.size+1+1))] 117)=aO at aA HR HK bo⊢;refine yaj bo.o ?_;rintro e ag ⟨rfl,(f:V _),(bF:V _)⟩;have bz:V _:=RB.keepC HR.o bF.o (by rintro (c|c|c)<;>(have:=aX.o;omega));clear bo;exact qdu):Zp:=h
theorem z.qdv(h:Zp:=by
 refine yaz (v:=eV O n1 c1 ax T c2 Z n3 c3) (by simp[results,results55,go_sem,bb,aM,aQ]) rfl ⟨ax,ap,T,c2,(eqM 1 vs outs).1,rfl,H2.o,⟨?_,?_,?_,f.o.d12,f.o.d13,f.o.d23⟩,Lk.refl _,?_,?_,.inl rfl⟩
 ·exact f.o.i.keep K (hM aX.o)
 ·exact f.o.v.keep K (hM aX.o)
 ·exact f.o.o.keep K (hM aX.o)
 ·exact lG cw.o 1 _
 refine Chg.new (Chg.new HK.o.chg bF.o (λb hb c=>?_)) (K.chg1 (S:=λb=>b=w.heap.size+1) rfl) (λb hb c=>by omega);rcases c with c|c|c
 ·exact .inl c
 ·exact .inr c
 omega):Zp:=h
open z in
theorem Lz(w O ax Z bA n1 c1 ap T c2 bM n3 c3 ins vs outs)(hP:PG w bA ap bM n1 T n3 ins vs outs)(bN:okG ins vs outs=true)(s:Kb vs)(J:Sl ax T c2 ap)(h3:0<n3->Z=some ⟨bM,0,none⟩):
  Calls prog 55 #[eV O n1 c1 ax T c2 Z n3 c3] w λe I=>POk w O Z bA n1 c1 ap bM n3 c3 ins (eqM 1 vs outs) e I:=by
 exact qag
theorem A.qah(h:Zp:=by
 have b8:((w.alloc (eW O n1 c1 ax T c2 Z n3 c3)).alloc fj).heap.size=w.heap.size+1+1:=by simp
 have aq:=A7 T ((w.alloc (eW O n1 c1 ax T c2 Z n3 c3)).alloc fj) xaa;have b5:(((w.alloc (eW O n1 c1 ax T c2 Z n3 c3)).alloc fj).alloc (.cells (madeCells #[.slice none 0 0] T) 48)).heap.size=w.heap.size+1+1+1:=by simp
 have bh:=LW.made ((w.alloc (eW O n1 c1 ax T c2 Z n3 c3)).alloc fj) T (((w.alloc (eW O n1 c1 ax T c2 Z n3 c3)).alloc fj).alloc (.cells (madeCells #[.slice none 0 0] T) 48)).heap.size;have ah:=ez 0 0 ((w.alloc (eW O n1 c1 ax T c2 Z n3 c3)).alloc fj) (.cells (madeCells #[.slice none 0 0] T) 48);exact qgn):Zp:=h
theorem A.qeq(h:Zp:=by
 have H2:V _:=J;clear J hP bN ck cz cA aD al cu bh C bi b8 b5 an aj ah s;obtain⟨_,aT,ao,aG⟩:=aS;obtain⟨_,bd,aL,aJ⟩:=aA.o;go_enter func56,ntmps56;go_wp2_with fail;clear bd aL aJ aT ao aG aq;generalize ((w.alloc _).alloc _).alloc _=aO at aA HR bV HK b1 bJ⊢;go_loopw [14] (λx W=>∃(i:Nat) (us:List Vl) (ai:List (List Nat)),i<=T/\x=hD i/\V (FI W aO ap (w.heap.size+1+1) T i vs us ai)) (λx _=>T-(intOf x).toNat)
 case atStart=>exact⟨0,[],_,yae,rfl,⟨by simpa using bV.o.v,rfl,rfl,λv aD=>by simp at aD,b1.o,λk x ak=>by
   rw[yai,List.getElem?_replicate]at ak
   split at ak<;>simp at ak,λj hj=>by omega,Chg.refl _ _⟩⟩
 case round=>
  obtain⟨i,us,ai,hi,rfl,bp⟩:=hrel;clear b1;by_cases aC:i<T
  ·obtain rfl:=Sl.pos H2.o xaa;have aa:i<vs.length:=by rw[HL.o];exact aC
   have cV:=bp.o.ch.size;have cR:=bJ.o;have be:=bp.o.va.at_ i aC;rw[FA bp.o.len]at be;have t:V _:=be;have bN:=bL.o i aC;have bX:=i6 bN;have cI:=nD bN;have cQ:V _:=G0.keepC aA.o bp.o.ch (by rintro (c|c)<;>(have:=aX.o;omega))
   have Y:V (∀W,Kept 0 0 _ W->_):=λW l=>by
    have:=uT W (vs.getD i hI) ap T c2 _ (bp.o.va.keep l yaa) (λo h=>hM (bX o h))
    rw[JY (λo h=>by rw[bp.o.len];exact bX o h)]at this
    exact this
   have F:V (ofC _ (vs.getD i hI)=false->_):=λh=>Nk bp.o.lk h
   have ba:∀j,j<i->(us.getD j _).len=(vs.getD j _).len:=λj hj=>by
    have bc:=congrArg Vl.len (bp.o.lk.at_ j)
    have e:(us.getD j _).len=((fU _ i).getD j _).len:=bc
    rw[e,mN _ i j hj]
   have R:V _:=λzs ad bi=>Nl (zs:=zs) bN bp.o.lk bp.o.hd ad bp.o.wd (lu cw.o i) ba (λj hj=>by rw[ba j hj];have:=of_decide_eq_true (jB (bL.o j xaa));omega) bi
   have n:V (∀W,Kept 0 0 _ W->ofC us _=true->_):=λW l ad=>
    pR W _ (λc=>by unfold ofC at ad;rw[c]at ad;simp at ad) _ _ T 0 0 _ none _ (bp.o.lw.keepR l yab yaa).lv yad (Kb.at_ cw.o i) bp.o.wd (List.all_eq_true.2 λo h=>decide_eq_true (hM (bX o h)))
   have bl:V (∀x∈kop (vs.getD i hI) ai,x<18446744073709551616):=by
    show ∀x∈_,_;rw[rK];exact xC (Kb.at_ cw.o i) (km (bp.o.wd _)) (km (bp.o.wd _)) (km (bp.o.wd _))
   have P:V ((vs.getD i hI).len.toNat<=1000):=by have:=of_decide_eq_true (jB bN);show _<=_;omega
   have co:V (∀W,Kept 0 0 _ W->jr (fU _ i) _=vs.getD i _->(vs.getD i _).op≠1->_):=λW l B J=>bp.o.stay l aa cw.o B J;clear bN bX cI ba;have aK:V (vs.getD i hI=vs.getD i _):=rfl;generalize aD:vs.getD i _=v at be t Y F R n bl P co;have bq:V _:=aD;clear aD aK;obtain⟨bb,aM,aQ,bY,cg,cn⟩:=be;obtain⟨_,a8,aV,p2⟩:=cQ.o;have bx:=ez 0 0 wr (fB v.op v.len v.a v.b v.c v.k);have f:V _:=bx;have bn:V _:=i5 wr v;have cx:V _:=cQ.o.keep bx;exact qgx
  obtain rfl:i=T:=xaa;have cV:=bp.o.ch.size;have cR:=bJ.o
  have am:V (VA wr ap i us):=by
   have:=bp.o.va;rw[List.drop_of_length_le (hR HL.o),List.append_nil]at this;exact this
  have m:V _:=G0.keepC aA.o bp.o.ch (by rintro (c|c)<;>(have:=aX.o;omega));have bS:V _:=RB.keepC HR.o bp.o.ch (by rintro (c|c)<;>(have:=aX.o;omega));have q:V _:=IBk.keepC bV.o.i bp.o.ch (by rintro (c|c)<;>(have:=aX.o;omega));have aR:V _:=IBk.keepC bV.o.o bp.o.ch (by rintro (c|c)<;>(have:=aX.o;omega));have cq:V (Chg (λb=>b=ap\/b=bM) w _):=Chg.new HK.o.chg bp.o.ch (λb hb c=>by rcases c with c|c<;>first|exact .inl c|omega);have af:V (Lk us (fU vs vs.length)):=hO HL.o bp.o.lk
  have ae:V _:=bp.o.kb;clear bp;obtain⟨_,a8,aV,p2⟩:=m.o;obtain⟨_,bm,ay,aW,bG,f1,f2⟩:=bS.o;go_wp2_with fail;obtain⟨bb,aM,aQ⟩:=eZ _ _ _ _ _ bm ay aW (.slice O n1 c1) (.slice ax i c2) (.slice Z n3 c3);have K:=fg wr (w.heap.size+1) (.slice O n1 c1) (.slice ax i c2) (.slice Z n3 c3);refine yaz (v:=eV O n1 c1 ax i c2 Z n3 c3) (by simp[results,results56,go_sem,bb,aM,aQ]) rfl ⟨ax,ap,i,c2,us,rfl,H2.o,⟨?_,?_,?_,?_,?_,?_⟩,af.o,ae.o,?_,.inl rfl⟩
  ·exact q.o.keep K (hM aX.o)
  ·exact am.o.keep K (hM aX.o)
  ·exact aR.o.keep K (hM aX.o)
  ·exact aX.o.2.2.2.1
  ·exact aX.o.2.2.2.2.1
  ·exact aX.o.2.2.2.2.2
  exact Chg.new cq.o (K.chg1 rfl) (λb hb c=>by omega)):Zp:=h
theorem A.qgo(h:Zp:=by
 have bJ:V _:=b5;exact qep):Zp:=h
theorem A.qgy(h:Zp:=by
 obtain⟨_,a2,a5,a9⟩:=cx.o;go_wp2_with fail;clear bb aM aQ bY cg cn a8 aV p2 a2 a5 a9 bx;generalize wr.alloc _=ag at f bn cx cM⊢;refine yaj (Y.o _ f.o) ?_;rintro e a7 ⟨rfl,aF⟩;have bR:V _:=f.o.trans aF;have au:V _:=bn.o.keep cM.o aF yaa;have b7:V _:=cx.o.keep aF;have cU:V _:=yak cM.o aF.size;clear aF bn cx cM f Y;cases g:ofC us v
 ·obtain⟨ao,aG⟩:=F.o g;have U:V _:=co.o _ bR.o ao aG;clear g ao aG F R n co;exact xhj
 have bk:V _:=n.o _ bR.o g;have av:V _:=λzs=>R.o zs g;clear g F n R;obtain⟨bI,bB,bE,b6,ct,bo⟩:=au.o;simp only[Nat.zero_add]at bB bE b6 ct bo;go_wp2_with fail;clear bI bB bE b6 ct bo;refine yaj bk.o ?_;rintro e bj ⟨aI,r,aH,rfl,a0,ca⟩;obtain⟨b9,ne,cD,zs,Q,cH,aU,y⟩:=a0;cases Q;obtain⟨u1,u2,(ar:V _),u4⟩:=av.o _ y;have c8:=aU.len.symm;have cc:1<=r:=xaa;have aw:V _:=JX _ _ _ _ _ aH _ aU cc (hM P.o);have b0:V _:=bR.o.trans ca;have aN:V _:=au.o.keep cU.o ca yaa;have bK:V _:=b7.o.keep ca;have G:V (wr.heap.size<bj.heap.size/\aO.heap.size<=a7.heap.size):=⟨yak cU.o ca.size,hM cU.o⟩
 have S:V _:=aU;have N:V _:=y;have ea:V _:=cH;clear ca bk av aU y cH u1 u2 c8 bR au b7 cU;go_wp2_with fail;refine yaj aw.o ?_;rintro e br ⟨rfl,rfl⟩;cases u:uni zs
 ·obtain⟨ao,aG⟩:=u4 u;have U:V _:=co.o _ b0.o ao aG;clear u ao aG co u4 ar;exact xhj
 obtain⟨ao,aG⟩:=ar.o u;have cb:=G.o.2;have cT:=Cn.low ⟨_,_,_,_,rfl,ea.o,S.o,N.o⟩ cb;have a6:=fR S.o.lt 0;rcases S.o.at_ with z|⟨ge,off,rfl,ec,cf,bg,az⟩
 ·omega
 have cD:=az 0 xaa;rw[Nat.add_zero]at cD;have ab:V (∀aB,Kept 0 0 (nW _ _ _ ⟨1,v.len,0,0,0,zs.getD 0 0⟩) aB->_):=λaB p=>FI.put bp.o b0.o p aC HL.o (hM aX.o) (hM aX.o) cT (hO bq.o ao) a6 bl.o aG;have cF:ap≠w.heap.size:=hM aX.o
 have bP:ap≠wr.heap.size:=hM aX.o
 have bw:ap≠ge:=hM aX.o
 obtain⟨bI,bB,bE,b6,ct,bo⟩:=aN.o;simp only[Nat.zero_add]at bB bE b6 ct bo;obtain⟨_,a8,aV,p2⟩:=bK.o;obtain⟨bf,aP,aY,bW,b3,b2⟩:=At.keep t.o bp.o.va.lt b0.o yaa;have ch:=(VA.keep bp.o.va b0.o yaa).free;have bv:0<r:=cc;generalize zs.getD 0 0=bC at cD ab;clear ao aG cT a6 az ar u4 aw co S N ea u;go_wp2_with fail;go_region_held3 (λW:World=>W.cell? ⟨w.heap.size,1,none⟩=some (hC ap T c2)/\W.cell? ⟨wr.heap.size,1,none⟩=some (hD v.len)/\W.cell? ⟨ge,off,none⟩=some (.float .f64 bC)) (first|go_keep|(exact⟨(iO bj ap (i*6) _ _ ⟨1,v.len,0,0,0,bC⟩ (.inl cF)).trans aV,(iO bj ap (i*6) _ _ ⟨1,v.len,0,0,0,bC⟩ (.inl bP)).trans bB,(iO bj ap (i*6) _ _ ⟨1,v.len,0,0,0,bC⟩ (.inl bw)).trans cD⟩)) (fail);obtain⟨X,(R':V _)⟩:=ab.o ((((((bj.setCell _ (.int _ 1)).setCell _ (.int _ v.len)).setCell _ (.int _ 0)).setCell _ (.int _ 0)).setCell _ (.int _ 0)).setCell _ (.float _ bC)).drew (eF _);obtain⟨bH,H,bu,cL,_⟩:=X.at_ i aC;have aZ:=X.free i;clear ab;generalize ((((((bj.setCell _ _).setCell _ _).setCell _ _).setCell _ _).setCell _ _).setCell _ _).drew=ci at X R' cL aZ⊢;clear X bI bB bE b6 ct bo a8 aV p2 bf aP aY bW b3 b2 ch cD;go_wp2;go_roundw;exact⟨i+1,_,_,by omega,by go_num,R'⟩;simp[intOf];omega):Zp:=h
open A in
theorem PI(w O ax Z bA n1 c1 ap T c2 bM n3 c3 ins vs outs)(hP:PG w bA ap bM n1 T n3 ins vs outs)(bN:okG ins vs outs=true)(s:Kb vs)(J:Sl ax T c2 ap):
  Calls prog 56 #[eV O n1 c1 ax T c2 Z n3 c3] w λe I=>POk w O Z bA n1 c1 ap bM n3 c3 ins (fU vs vs.length,outs) e I:=by
 obtain⟨⟨ck,cz,cA⟩,_,aD,al,_⟩:=fW bN;have cu:=hP.v.len;have ce:T<=2000:=xaa;have bL:V (∀j,j<T->_):=λj hj=>aD j xaa;have HL:V _:=cu;have cw:V _:=s;exact qag
end
section
open Go.RowKit Flt
attribute[local go_sem] eG eE eD kO
variable{w I:World}{O Z:Option Addr}{bA c1 n1 ap bM c3 n3:Nat}{ins:List Int}{us:List Vl}
theorem POg.k{M e}(h:POg w O Z bA n1 c1 ap bM n3 c3 ins M e I):POk w O Z bA n1 c1 ap bM n3 c3 ins M e I:=by
 obtain⟨t,T,c2,us,B,J,rfl,a0⟩:=h;exact⟨_,t,T,c2,M.1,B,.inr rfl,J,Lk.refl _,a0⟩
def PRk(w:World)(n1 n3:Nat)(ins:List Int)(M:List Vl×List Int)(e:Ending)(w':World):Prop:=
 ∃B1 d1 B2 n2 d2 B3 d3 us,e=.returned (.tuple #[eV B1 n1 d1 B2 n2 d2 B3 n3 d3,.int .i64 0])/\LsI w' B1 n1 d1 ins/\LsV w' B2 n2 d2 us/\LsI w' B3 n3 d3 M.2/\((∀g,B2=some ⟨g,0,none⟩->w.heap.size<=g)/\(∀g,B1=some ⟨g,0,none⟩->w.heap.size<=g)/\∀g,B3=some ⟨g,0,none⟩->w.heap.size<=g)/\Lk us M.1/\Kb us/\Kept 0 0 w w'
theorem Sl.lv{b n c g vs}(h:Sl b n c g)(f:VA w g n vs):LsV w b n c vs:=⟨f.len,h.imp id λe=>⟨g,e,f⟩⟩
structure OpL(w W:World)(A O R:Nat)(B1 B2 B3:Option Addr)(G1 n1 d1 G2 n2 d2 G3 n3 d3:Nat)(ins:List Int)(us:List Vl)(M:List Vl×List Int):Prop where
 pg:PG W G1 G2 G3 n1 n2 n3 ins us M.2
 sl:Sl B2 n2 d2 G2
 lk:Lk us M.1
 kb:Kb us
 ar:AP W A
 ob:RB W O (.slice B1 n1 d1) (.slice B2 n2 d2) (.slice B3 n3 d3)
 res:RB W R (.slice none 0 0) (.slice none 0 0) (.slice none 0 0)
 ne:(G1≠O/\G2≠O/\G3≠O)/\(G1≠R/\G2≠R/\G3≠R)/\(G2≠A/\G3≠A/\O≠A)/\O≠R
 lo:w.heap.size<=O/\w.heap.size<=G2/\w.heap.size<=G3
 ke:Kept 0 0 w W
theorem OpL.next{W W' W2 A b4 U n d1 t T d2 R d3 G2' n2' c2' am aB bc B2' us' M M'}(h:OpL w W A b4 U am aB bc n n1 d1 t T d2 R n3 d3 ins us M)(k:Kept 0 0 W W')
  (ar:Sl B2' n2' c2' G2') (aK:PG W2 n G2' R n1 n2' n3 ins us' M'.2) (ab:Lk us' M'.1) (N:Kb us') (ad:Chg (λb=>b=t\/b=R) W' W2) (aR:G2'=t\/W'.heap.size<=G2'):RB W2 b4 (.slice am n1 d1) (.slice aB T d2) (.slice bc n3 d3)/\OpL w (Cc W2 b4 (.slice am n1 d1) (.slice B2' n2' c2') (.slice bc n3 d3)) A b4 U am B2' bc n n1 d1 G2' n2' c2' R n3 d3 ins us' M':=by
 obtain⟨⟨e1,e2,af⟩,⟨e4,bo,G⟩,⟨p,e,f⟩,g⟩:=h.ne;obtain⟨b1,ce,a9⟩:=h.lo;have al:=h.ob.sz;have C:=h.res.sz;have aU:=h.ar.lt;have bi:=k.size;have an:=h.ke.size;have bO:=(h.ob.keep k).keepC ad xaa;have K:=fg W2 b4 (.slice am n1 d1) (.slice B2' n2' c2') (.slice bc n3 d3);have cp:Chg (λb=>b=b4) _ (Cc _ b4 _ _ _):=K.chg1 rfl;have l:G2'≠b4:=by rcases aR with c|c<;>omega
 have m:G2'≠U:=by rcases aR with c|c<;>omega
 have j:G2'≠A:=by rcases aR with c|c<;>omega
 exact⟨bO,⟨aK.i.keep K xaa,aK.v.keep K xaa,aK.o.keep K xaa,aK.d12,aK.d13,aK.d23⟩,ar,ab,N,((h.ar.keepC (S:=λ_=>False) k.chg id).keepC ad xaa).keepC cp xaa,nK bO _ _ _,((h.res.keep k).keepC ad xaa).keepC cp xaa,⟨⟨e1,l,af⟩,⟨e4,m,G⟩,⟨j,e,f⟩,g⟩,⟨b1,by rcases aR with c|c<;>omega,a9⟩,(Chg.kept (h.ke.trans k) ad (λi hi=>by omega)).new K xaa⟩
theorem POk.next{M:List Vl×List Int}{p e}(h:POk w O Z bA n1 c1 ap bM n3 c3 ins (ja p us M.2) e I)(ab:Lk us M.1)(aj:Kb us)(ah:Kb M.1):POk w O Z bA n1 c1 ap bM n3 c3 ins (ja p M.1 M.2) e I:=by
 obtain⟨aB,t,T,c2,us',B,ae,J,h3,a0⟩:=h;have q:=uh (outs:=M.2) p ab aj ah;exact⟨_,_,_,_,_,B,ae,hQ q.2 J,h3.trans q.1,a0⟩
theorem bH.qbs(h:Zp:=by
 have bu:V _:=bw;have HK:V _:=aw;have u:V (((w.alloc (eW O n1 c1 ax T c2 Z n3 c3)).alloc fj).heap.size=w.heap.size+1+1):=by show _=_;simp
 have aZ:V (Kb _/\okG _ _ _=true):=⟨aC,h⟩
 clear aw h B J h3 bw aK an v aC ck cz cA z;obtain⟨_,a8,aV,p2⟩:=aA.o;go_enter func8,ntmps8;go_wp2_with fail;clear a8 aV p2;generalize (w.alloc _).alloc _=aO at aA bu HK bn u aX⊢;refine yaj bn.o ?_;rintro e ag ⟨rfl,ah⟩;have bD:V _:=HK.o.trans ah;have y:V _:=aA.o.keep ah;have bi:V _:=bu.o.keep ah;have cD:V _:=aX.o.keep ah yaa;have bJ:V (w.heap.size+1+1<=ag.heap.size):=by have:=ah.size;rw[u.o]at this;exact this
 clear ah bn HK aA bu u aX;go_wp2_with fail;refine yaj (bW.o _ bD.o) ?_;rintro e a7 ⟨rfl,rfl⟩;go_wp2_with fail;refine yaj (DR _) ?_;rintro e bj ⟨rfl,ca⟩;have bx:=ez 0 0 bj Gz;have s:V _:=GA bj;have cC:V _:=bD.o.trans (ca.trans bx);have cQ:V _:=y.o.keep (ca.trans bx);have ad:V _:=bi.o.keep (ca.trans bx);have dd:V _:=cD.o.keep (ca.trans bx) yaa;have G:V (w.heap.size+1+1<=bj.heap.size/\(bj.alloc Gz).heap.size=bj.heap.size+1):=⟨hN bJ.o ca.size,by simp⟩
 obtain⟨_,a8,aV,p2⟩:=cQ.o;clear ca bx bD y bi bJ cD;go_wp2_with fail;clear a8 aV p2;generalize bj.alloc _=br at s cC cQ ad G dd⊢;refine yaj (aj.o _ cC.o) ?_;rintro e cq ⟨am,d1,aB,d2,bc,d3,rfl,⟨ch,bO,a5⟩,⟨p,C,aa⟩,⟨cB,b0⟩,cc⟩;have bZ:=ez 0 0 cq (eW am n1 d1 aB T d2 bc n3 d3);have bz:=G.o;have bP:=cc.size;have ab:=cB.lt;obtain⟨n,f1,ao,u1⟩:=IY ch HE.o.1 cB;obtain⟨t,f2,aG,u2⟩:=Ly bO HE.o.2.1 (dd.o.keep cc yaa);obtain⟨R,f3,Q,u3⟩:=IY a5 HE.o.2.2 b0;have ak:=I0 u1 u2 xaa p;have al:=I0 u1 u3 xaa C;have ar:=I0 u2 u3 xaa aa;have au:V (Sl _ _ _ _/\Sl _ _ _ _):=⟨ao,Q⟩
 have bA:=f1.lt;have ap:=f2.lt;have bM:=f3.lt;have F:=s.o.lt;have az:V (w.heap.size<=n):=by show _<=_;omega
 have P:V (OpL w _ _ _ _ _ _ _ _ _ _ _ _ _ _ _ _ _ _ (gM _ _ X 0)):=⟨(PG.mk f1 f2 f3 ak al ar).keep bZ,aG,Lk.refl _,aZ.o.1,s.o.keepC (S:=λ_=>False) (cc.trans bZ).chg id,rL _ _ _ _,ad.o.keep (cc.trans bZ),⟨⟨by omega,by omega,by omega⟩,⟨by omega,by omega,by omega⟩,⟨by omega,by omega,by omega⟩,by omega⟩,⟨by omega,by omega,by omega⟩,cC.o.trans (cc.trans bZ)⟩
 clear ch bO a5 p C aa cB b0 cc bZ bz bP ab f1 f2 f3 ao aG Q u1 u2 u3 ak al ar bA ap bM F s cC cQ ad aj bW dd HE G;go_wp2_with fail;generalize cq.alloc _=ci at P⊢;go_loopw [28] (λx W=>∃(k:Nat) (aB:Option Addr) (t T d2:Nat) (us:List Vl),k<=m/\x=hD k/\V (OpL w W bj.heap.size cq.heap.size (w.heap.size+1) am aB bc n n1 d1 t T d2 R n3 d3 ins us (gM vs outs X k))) (λx _=>m-(intOf x).toNat)
 case atStart=>exact⟨0,_,_,_,_,_,yae,rfl,P⟩
 case round=>
  obtain⟨k,aB,t,T,d2,us,N,rfl,a6⟩:=hrel;clear P;by_cases aD:k<m
  ·obtain⟨c6,op,ai,rfl,cP,_,_,b8⟩:=(IS.keep av.o a6.o.ke yaa).at_idx (o:=k) xaa xaa;obtain rfl:k=ai:=xaa;rw[Int.toNat_natCast]at b8;have bz:=b4.o k aD;have r:V (okG ins us (gM vs outs X k).2=true):=by show _=_;rw[a6.o.lk.okG];exact cd.o k
   have bg:V (∀{W':World}{e:Ending}{I:World},POk W' am _ _ _ d1 t R n3 d3 ins _ e _->POk _ _ bc n n1 _ _ _ _ _ _ (gM _ _ _ (k+1)) e I):=λh=>h.next a6.o.lk a6.o.kb (cw.o k);obtain⟨_,bm,ay,aW,bG,f1,f2⟩:=a6.o.ob;obtain⟨_,bV,a1,Y,a3,a4⟩:=a6.o.ar;have q:V _:=λW' W2 B2' G2' n2' c2' us' l bI bB bE b6 ct bo=>a6.o.next (W':=W') (W2:=W2) (G2':=G2') (n2':=n2') (c2':=c2') (B2':=B2') (us':=us') (M':=gM vs outs X (k+1)) l bI bB bE b6 ct bo;have H:V (∀W',Kept 0 0 _ W'->_):=λW' l=>a6.o.pg.keep l;have af:V (Kb _/\Sl aB _ _ _):=⟨a6.o.kb,a6.o.sl⟩
   have aJ:=a6.o.ne.2.2.1.2.2;rcases (by omega:X.getD k 0=0\/X.getD k 0=1\/X.getD k 0=2\/X.getD k 0=3\/X.getD k 0=4) with S|S|S|S|S
   ·rw[S]at bg b8
    have f:V _:=λW' l=>(PE _ _ _ _ _ _ _ _ _ d2 _ _ _ _ _ _ (H.o W' l) r.o af.o.1 af.o.2.pos au.o.2.pos).mono λe I h=>by
     rw[J6]at h
     exact bg.o (POg.k h)
    clear S bg bz a6 r H af;go_wp2_with fail;go_region_with ((go_at_call 54;refine yaj (f.o _ (eF _)) ?_;rintro e b5 ⟨B2',G2',n2',c2',us',rfl,bC,aN,a2,bk,bq,co⟩;obtain⟨j,(U:V _)⟩:=q.o _ _ _ _ _ _ _ (eF _) bC aN a2 bk bq co;obtain⟨_,b9,bK,cr,ae,B,J⟩:=j;clear bC aN a2 bk bq co))
    all_goals
     go_wp2
     go_roundw;exact⟨k+1,_,_,_,_,_,by omega,by go_num,U⟩;simp[intOf];omega
   ·rw[S]at bg b8
    have f:V _:=λW' l=>(Lz _ _ _ _ _ _ _ _ _ _ _ _ _ _ _ _ (H.o W' l) r.o af.o.1 af.o.2 au.o.2.pos).mono λe I h=>by
     rw[xL (by decide:(1:Int)≠0) (by decide:(1:Int)≠2)]at h
     exact bg.o h
    clear S bg bz a6 r H af;go_wp2_with fail;go_region_with ((go_at_call 55;refine yaj (f.o _ (eF _)) ?_;rintro e b5 ⟨B2',G2',n2',c2',us',rfl,bC,aN,a2,bk,bq,co⟩;obtain⟨j,(U:V _)⟩:=q.o _ _ _ _ _ _ _ (eF _) bC aN a2 bk bq co;obtain⟨_,b9,bK,cr,ae,B,J⟩:=j;clear bC aN a2 bk bq co))
    all_goals
     go_wp2
     go_roundw;exact⟨k+1,_,_,_,_,_,by omega,by go_num,U⟩;simp[intOf];omega
   ·rw[S]at bg b8
    have f:V _:=λW' l=>(PI _ _ _ _ _ _ _ _ _ _ _ _ _ _ _ _ (H.o W' l) r.o af.o.1 af.o.2).mono λe I h=>by
     rw[J7]at h
     exact bg.o h
    clear S bg bz a6 r H af;go_wp2_with fail;go_region_with ((go_at_call 56;refine yaj (f.o _ (eF _)) ?_;rintro e b5 ⟨B2',G2',n2',c2',us',rfl,bC,aN,a2,bk,bq,co⟩;obtain⟨j,(U:V _)⟩:=q.o _ _ _ _ _ _ _ (eF _) bC aN a2 bk bq co;obtain⟨_,b9,bK,cr,ae,B,J⟩:=j;clear bC aN a2 bk bq co))
    all_goals
     go_wp2
     go_roundw;exact⟨k+1,_,_,_,_,_,by omega,by go_num,U⟩;simp[intOf];omega
   ·rw[S]at bg b8
    have f:V _:=λW' l=>(Qh _ _ _ _ _ _ _ _ _ _ _ _ _ _ _ _ (H.o W' l) r.o af.o.1 af.o.2 au.o.2.pos).mono λe I h=>by
     rw[xL (by decide:(3:Int)≠0) (by decide:(3:Int)≠2)]at h
     exact bg.o h
    clear S bg bz a6 r H af;go_wp2_with fail;go_region_with ((go_at_call 57;refine yaj (f.o _ (eF _)) ?_;rintro e b5 ⟨B2',G2',n2',c2',us',rfl,bC,aN,a2,bk,bq,co⟩;obtain⟨j,(U:V _)⟩:=q.o _ _ _ _ _ _ _ (eF _) bC aN a2 bk bq co;obtain⟨_,b9,bK,cr,ae,B,J⟩:=j;clear bC aN a2 bk bq co))
    all_goals
     go_wp2
     go_roundw;exact⟨k+1,_,_,_,_,_,by omega,by go_num,U⟩;simp[intOf];omega
   rw[S]at bg b8
   have f:V _:=λW' l=>(PH _ _ _ _ _ _ _ _ _ _ _ _ _ _ _ _ (H.o W' l) r.o af.o.1 af.o.2 au.o.2.pos).mono λe I h=>by
    rw[xL (by decide:(4:Int)≠0) (by decide:(4:Int)≠2)]at h
    exact bg.o h
   clear S bg bz a6 r H af;go_wp2_with fail;go_region_with ((go_at_call 58;refine yaj (f.o _ (eF _)) ?_;rintro e b5 ⟨B2',G2',n2',c2',us',rfl,bC,aN,a2,bk,bq,co⟩;obtain⟨j,(U:V _)⟩:=q.o _ _ _ _ _ _ _ (eF _) bC aN a2 bk bq co;obtain⟨_,b9,bK,cr,ae,B,J⟩:=j;clear bC aN a2 bk bq co))
   all_goals
    go_wp2
    go_roundw;exact⟨k+1,_,_,_,_,_,by omega,by go_num,U⟩;simp[intOf];omega
  obtain rfl:k=m:=xaa;obtain⟨_,bm,ay,aW,bG,f1,f2⟩:=a6.o.ob;obtain⟨_,aT,ao,aG,bF,a9,ba⟩:=a6.o.res;have aI:V _:=a6.o;clear a6;go_wp2_with fail;obtain⟨bb,aM,aQ⟩:=eZ _ _ _ _ _ aT ao aG (.slice am n1 d1) (.slice aB T d2) (.slice bc n3 d3);have K:=fg wr (w.heap.size+1) (.slice am n1 d1) (.slice aB T d2) (.slice bc n3 d3);have cf:=aI.o.ne;have cb:=aI.o.lo;have bp:=az.o;refine yaz (v:=.tuple #[eV am n1 d1 aB T d2 bc n3 d3,hD 0]) (by simp[results,results8,go_sem,bb,aM,aQ]) rfl ⟨am,d1,aB,T,d2,bc,d3,us,rfl,au.o.1.ni (aI.o.pg.i.keep K xaa),aI.o.sl.lv (aI.o.pg.v.keep K xaa),au.o.2.ni (aI.o.pg.o.keep K xaa),⟨λg e=>?_,λg e=>?_,λg e=>?_⟩,aI.o.lk,aI.o.kb,aI.o.ke.new K xaa⟩
  ·rcases aI.o.sl with⟨c,_⟩|c<;>rw[c]at e<;>cases e
   omega
  ·rcases au.o.1 with⟨c,_⟩|c<;>rw[c]at e<;>cases e
   omega
  rcases au.o.2 with⟨c,_⟩|c<;>rw[c]at e<;>cases e
  omega):Zp:=h
open bH in
theorem PJ(w O ax Z bU n1 c1 T c2 n3 c3 aH aF m cp ins vs outs X)(B:LsI w O n1 c1 ins)(J:LsV w ax T c2 vs)(h3:LsI w Z n3 c3 outs)(aC:Kb vs)(h:okG ins vs outs=true)(aK:IS w aH aF bU m X)(aq:m<=50)(z:X.all (fJ · 5)=true):
  Calls prog 8 #[eV O n1 c1 ax T c2 Z n3 c3,.slice bU m cp] w (PRk w n1 n3 ins (gM vs outs X m)):=by
 have bv:¬50<(m:Int):=xaa;obtain⟨⟨ck,cz,cA⟩,_,_,_,_⟩:=fW h;rw[B.1]at ck;rw[J.1]at cz;rw[h3.1]at cA;have an:=ez 0 0 w (eW O n1 c1 ax T c2 Z n3 c3);have v:=ez 0 0 (w.alloc (eW O n1 c1 ax T c2 Z n3 c3)) fj;have aw:=an.trans v;have bn:V _:=vf _ _ _ _ _ c1 _ c2 _ c3 _ _ _ (GS.keep ⟨B.is,J.vs aC,h3.is⟩ aw);rw[h]at bn
 have bW:V (∀W,Kept 0 0 w W->_):=λW l=>by
  have:=J1 W _ _ bU m cp 5 X (aK.keep l yaa) xaa
  rw[z]at this
  exact this
 have b4:V _:=λk N=>of_decide_eq_true (List.all_eq_true.1 z _ (gY (q:=k) (hO aK.len N)));have cd:V _:=λk=>mr X h k;have cw:V (∀k,Kb (gM _ outs _ k).1):=λk=>ms X aC k;have av:V _:=aK;have aj:V _:=λW l=>PF W _ _ _ _ _ _ _ _ _ _ _ _ (B.keep l) (J.keep l) (h3.keep l) xaa xaa xaa;have HE:V (ins.length=n1/\vs.length=T/\outs.length=n3):=⟨B.1,J.1,h3.1⟩
 have aA:V _:=(ft w _ _ _).keep v;have aX:V _:=(BC w _ _).keep v yaa;exact qbr
end
section
open Go.RowKit Flt
attribute[local go_sem] eG eE eD
theorem Ou(w:World)(p):IS (w.alloc (.cells #[hD p] 3)) 0 (w.heap.size+1) (some ⟨w.heap.size,0,none⟩) 1 [p]:=
 ⟨rfl,.inr ⟨w.heap.size,0,rfl,yae,yaf,by simp,λk N=>by
  obtain rfl:k=0:=xaa
  simp⟩⟩
theorem bI.qbs(h:Zp:=by
 have bu:V _:=bw.keep (ez 0 0 _ (.cells #[hD p] 3));clear aw bw bi B J h3 h aC;go_enter func9,ntmps9;go_wp2_with fail;refine yaj bn.o ?_;clear bn;generalize ((w.alloc _).alloc _).alloc _=aO at HK bu b7⊢;rintro e ag ⟨am,d1,aB,b2,d2,bc,d3,us,rfl,aN,a2,bk,⟨ce,b1,a9⟩,i,bq,ah⟩;obtain⟨_,bd,aL,aJ,bG,f1,f2⟩:=RB.keep bu.o ah;have bi:=b7.o;obtain⟨bb,aM,aQ⟩:=eZ _ _ _ _ _ bd aL aJ (.slice am n1 d1) (.slice aB b2 d2) (.slice bc n3 d3);have K:=fg ag (w.heap.size+1) (.slice am n1 d1) (.slice aB b2 d2) (.slice bc n3 d3);have au:∀{b:Option _}{n c:Nat}{xs:List _},LsI _ b n c _->(∀g,b=some _->aO.heap.size<=g)->LsI (fw ag _ _ _ _) b n c xs:=λh l=>⟨h.1,h.2.imp id λ⟨g,e,f⟩=>⟨g,e,f.keep K (hM (l g e))⟩⟩
 have N:=HK.o.size
 have U:V (PRk w _ _ _ _ _ _):=
  ⟨_,_,_,_,_,_,_,_,rfl,au aN b1,⟨a2.1,a2.2.imp id λ⟨g,e,f⟩=>⟨g,e,f.keep K (hM (ce g e))⟩⟩,au bk a9,⟨λg e=>hM (ce g e),λg e=>hM (b1 g e),λg e=>hM (a9 g e)⟩,i,bq,(HK.o.trans ah).new K xaa⟩
 clear ah K aN a2 bk i bq bi b1 ce a9 au N;go_wp2_with fail;exact yaz (v:=.tuple #[eV am n1 d1 aB b2 d2 bc n3 d3,hD 0]) (by simp[results,results9,go_sem,bb,aM,aQ]) rfl U.o):Zp:=h
open bI in
theorem rpL(w p)(j:0<=p/\p<5)(O ax Z n1 c1 T c2 n3 c3 ins vs outs)(B:LsI w O n1 c1 ins)(J:LsV w ax T c2 vs)(h3:LsI w Z n3 c3 outs)(aC:Kb vs)(h:okG ins vs outs=true):
  Calls prog 9 #[eV O n1 c1 ax T c2 Z n3 c3,hD p] w (PRk w n1 n3 ins (ja p vs outs)):=by
 have bi:((w.alloc (eW O n1 c1 ax T c2 Z n3 c3)).alloc fj).heap.size=w.heap.size+1+1:=by simp
 have aw:=((ez 0 0 w (eW O n1 c1 ax T c2 Z n3 c3)).trans (ez 0 0 _ fj)).trans (ez 0 0 _ (.cells #[hD p] 3));have bn:V (Calls _ _ _ _ (PRk _ _ _ _ (ja p vs outs))):=PJ _ _ _ _ _ _ _ _ _ _ _ _ _ 1 1 _ _ _ _ (B.keep aw) (J.keep aw) (h3.keep aw) aC h (Ou _ p) xaa (by rw[List.all_cons,List.all_nil,Bool.and_true];exact decide_eq_true j);rw[bi]at bn;have b7:V (w.heap.size+1+1<(((w.alloc (eW O n1 c1 ax T c2 Z n3 c3)).alloc fj).alloc (.cells #[hD p] 3)).heap.size):=by show _<_;simp
 have HK:V _:=aw;exact qbr
