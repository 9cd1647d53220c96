import Derived.Test.YtaheilbiakhlgaaGreatP41
import Derived.Test.YtaheilbiakhlgaaGreatP17
import Derived.Test.YtaheilbiakhlgaaGreatP38
namespace Go.Proofs.Z
variable{Zp:Prop}
open Tryz
set_option maxRecDepth 1000000
set_option maxHeartbeats 0
section
open Go.RowKit Flt
attribute[local go_sem] eF eE eD
variable{w J:World}{I n c:Nat}{b a:Option Addr}{xs:List Int}
theorem H8(w a1 Z a3 Y c1 ab c2 ay aa c3 lo hi a n cap tq outs)(f:IBk w ay aa outs)(t:IS w lo hi a n tq)(G:hi<=ay\/ay<lo)(h:∀o∈outs,0<=o/\o<n)(hn:aa<=1000000)(h3:0<aa->a3=some ⟨ay,0,none⟩):
  Calls prog 118 #[eX a1 Y c1 Z ab c2 a3 aa c3,.slice a n cap] w λe J=>e=.returned (.tuple #[])/\IBk J ay aa (jO tq outs)/\Kept ay (ay+1) w J:=by
 have H:=ez 0 0 w (eZ a1 Y c1 Z ab c2 a3 aa c3);have aH:V _:=fO w (.slice a1 Y c1) (.slice Z ab c2) (.slice a3 aa c3);have aL:V _:=f.keep H yaa;have ba:V _:=t.keep H yaa;have HL:V _:=f.len;have bk:V _:=f.lt;have HO:V _:=h;have s:V (Kept ay (ay+1) w (w.alloc (eZ a1 Y c1 Z ab c2 a3 aa c3))):=ez _ _ _ _;have H3:V _:=h3;clear f t h H h3;obtain⟨_,a7,aK,aP⟩:=aH.o;go_enter func118,ntmps118;go_wp2_with fail;clear a7 aK aP;generalize w.alloc _=aG at aH aL ba s⊢;go_loopw [9] (λi W=>∃k:Nat,k<=aa/\i=hF k/\V (IBk W ay aa ((jO tq outs).take k++outs.drop k))/\V (Kept ay (ay+1) aG W)) (λi _=>aa-(intOf i).toNat)
 case atStart=>exact⟨0,Nat.zero_le _,rfl,by simpa using aL,Kept.refl _ _ _⟩
 case round=>
  obtain⟨k,O,rfl,bx,ar⟩:=hrel;clear aL;by_cases aB:k<aa
  ·obtain rfl:=H3.o xaa;have ax:=HO.o _ (jw (hR HL.o aB));obtain⟨g,off,m,rfl,em,aw,aQ,aN⟩:=(IS.keep ba.o ar.o xaa).at_idx ax.1 ax.2;have br:=bx.o.at_ k aB;rw[Kr (hR HL.o aB) (kQ _ _),em]at br;have cy:=bx.o.free k;obtain⟨_,a7,aK,aP⟩:=G0.keepT aH.o ar.o (hO bk.o);have R1:V _:=IBk.put bx.o k aB (tq.getD (outs.getD k 0).toNat 0);rw[zt (hR HL.o aB)]at R1;have R2:V _:=Kept.trans ar.o (eU _ ⟨_,k,none⟩ (hF (tq.getD (outs.getD k 0).toNat 0)) yac);generalize tq.getD _ 0=x at aN R1 R2;clear bx ar ax em;go_wp2_with fail;go_region
   all_goals
    go_wp2
    go_roundw;exact⟨k+1,by omega,by go_num,IBk.keep R1.o (eG _) yaa,Kept.drew R2.o⟩;simp[intOf];omega
  obtain rfl:k=aa:=xaa
  have R1:V (IBk wr ay k (jO tq outs)):=by
   have:=bx.o;rw[yao (by rw[kQ,HL.o];omega),List.drop_of_length_le (hT HL.o),List.append_nil]at this;exact this
  have R2:V _:=Kept.trans s.o ar.o;clear bx ar;go_wp2;go_end0
  exact⟨rfl,R1.o,R2.o⟩
theorem KV(w a1 Z a3 Y c1 aC ab c2 ay aa c3 vs outs)(aM:VA w aC ab vs)(ax:IBk w ay aa outs)(cn:∀i,i<ab->∀o∈eY (vs.getD i hK),0<=o/\o<i)(l:∀o∈outs,0<=o/\o<ab)(hn:ab<=2000)(cU:aa<=1000000)(U:0<ab->Z=some ⟨aC,0,none⟩)(h3:0<aa->a3=some ⟨ay,0,none⟩):
  Calls prog 116 #[eX a1 Y c1 Z ab c2 a3 aa c3] w λe J=>∃G,e=.returned (hE G ab ab)/\w.heap.size<=G/\BR J G (ndI vs outs ab)/\Kept 0 0 w J:=by
 have H:=ez 0 0 w (eZ a1 Y c1 Z ab c2 a3 aa c3);have aT:=fO w (.slice a1 Y c1) (.slice Z ab c2) (.slice a3 aa c3);have bz:(w.alloc (eZ a1 Y c1 Z ab c2 a3 aa c3)).heap.size=w.heap.size+1:=by simp
 have aw:=Am ab (w.alloc (eZ a1 Y c1 Z ab c2 a3 aa c3)) xaa;have f:=BR.made (w.alloc (eZ a1 Y c1 Z ab c2 a3 aa c3)) ab;have am:=ez 0 0 (w.alloc (eZ a1 Y c1 Z ab c2 a3 aa c3)) (.cells (madeCells #[.bool false] ab) 4);rw[bz]at aw f;have aH:V _:=aT.keep am;have b1:V _:=aM.keep (H.trans am) yaa;have HO:V _:=ax.keep (H.trans am) yaa;have HK:V _:=H.trans am;have g:V _:=f;have HL:V (vs.length=ab/\outs.length=aa):=⟨aM.len,ax.len⟩
 have bk:V (aC<w.heap.size/\ay<w.heap.size):=⟨aM.lt,ax.lt⟩
 have aQ:V ((∀i,i<ab->∀o∈eY _,0<=o/\o<i)/\(∀o∈outs,0<=o/\o<ab)):=⟨cn,l⟩
 have H2:V _:=U;have H3:V _:=h3;clear U h3 aM ax cn l H am f bz;obtain⟨_,a7,aK,aP⟩:=aT;obtain⟨_,bi,a5,p2⟩:=aH.o;go_enter func116,ntmps116;go_wp2_with fail;clear a7 aK aP bi a5 p2 aw;generalize (w.alloc _).alloc _=aG at aH b1 HO HK g⊢;go_loopw [16] (λi W=>∃k:Nat,k<=aa/\i=hF k/\V (BR W (w.heap.size+1) (ii (List.replicate ab false) (outs.take k)))/\V (Kept (w.heap.size+1) (w.heap.size+2) aG W)) (λi _=>aa-(intOf i).toNat)
 case atStart=>exact⟨0,Nat.zero_le _,rfl,g,Kept.refl _ _ _⟩
 case round=>
  obtain⟨k,O,rfl,bx,ar⟩:=hrel;clear g;by_cases aB:k<aa
  ·obtain rfl:=H3.o xaa;have cb:=aQ.o.2 _ (jw (hR HL.o.2 aB));obtain⟨m,em,aw⟩:∃m:Nat,outs.getD k 0=m/\m<ab:=⟨(outs.getD k 0).toNat,by omega,by omega⟩
   have br:=(IBk.keep HO.o ar.o (hO bk.o)).at_ k aB;rw[em]at br;have ah:(ii (List.replicate ab false) (outs.take k)).length=ab:=by rw[kX];simp
   have c2':=bx.o.cell m xaa;have cy:=bx.o.free m;have R1:V _:=BR.set bx.o m true;rw[show m=(outs.getD k 0).toNat by omega,<-oJ _ _ (hR HL.o.2 aB),<-show m=(outs.getD k 0).toNat by omega]at R1;have R2:V _:=Kept.trans ar.o (eU _ ⟨_,m,none⟩ (.bool true) yac);generalize (ii _ _).getD m _=z at c2';clear bx ar cb em ah;exact xer
  obtain rfl:k=aa:=xaa
  have h:V (BR wr (w.heap.size+1) (ndI vs outs 0)):=by
   have:=bx.o;rw[yao (hT HL.o.2)]at this;show BR _ _ _;rw[ndI,HL.o.1];exact this
  have s:V _:=ar.o;clear bx ar;obtain⟨_,bi,a5,p2⟩:=G0.keepT aH.o s.o xaa;go_wp2_with fail;clear bi a5 p2;go_loopw [6] (λx W=>∃j:Nat,j<=ab/\x=hF ((ab:Int)-1-j)/\V (BR W (w.heap.size+1) (ndI vs outs j))/\V (Kept (w.heap.size+1) (w.heap.size+2) aG W)) (λx _=>(intOf x+1).toNat)
  case atStart=>exact⟨0,Nat.zero_le _,by go_num,h,s⟩
  case round=>
   obtain⟨j,hj,rfl,bx,ar⟩:=hrel;clear h s;by_cases aB:j<ab
   ·obtain rfl:=H2.o xaa;have y:ab-1-j<ab:=xaa;obtain⟨i,hi⟩:∃i:Nat,i=ab-1-j:=⟨_,rfl⟩
    have bf:(ab:Int)-1-j=i:=xaa;have ai:i<ab:=xaa;rw[bf];have cG:V _:=hi;have bZ:V _:=bf;clear hi bf y;have cq:=lP vs outs j;have b2:=bx.o.cell i (by rw[cq,HL.o.1];exact ai);cases hb:(ndI vs outs j).getD i false
    ·have R1:V (BR wr (w.heap.size+1) (ndI vs outs (j+1))):=by
      show BR _ _ _;rw[zu (b:=false) (by rw[HL.o.1,<-cG.o];exact hb),hG xac];exact bx.o
     have R2:V _:=ar.o;rw[hb]at b2;clear bx ar cq hb;exact xhl
    rw[hb]at b2;have bm:=(VA.keep b1.o ar.o (hO bk.o)).at_ i ai;have a0:V _:=aQ.o.1 i ai
    have bw:V (ndI vs outs (j+1)=ii (ndI vs outs j) (eY (vs.getD i hK))):=by
     show _=_;rw[zu (b:=true) (by rw[HL.o.1,<-cG.o];exact hb),hI rfl,HL.o.1,<-cG.o]
    have b0:V ((ndI vs outs j).length=ab):=by show _=_;rw[cq,HL.o.1]
    generalize vs.getD i _=v at bm a0 bw;obtain⟨bd,aR,aV,bY,ce,cl⟩:=bm;obtain⟨_,bi,a5,p2⟩:=G0.keepT aH.o ar.o xaa;clear hb cq;go_wp2_with fail;clear bd aR aV bY ce cl bi a5 p2 b2;refine yai (pH _ v) ?_;rintro e ag ⟨r,rfl,(bU:V _),t,an⟩;have bN:V _:=Kept.trans ar.o (an.mono λb _ c=>by omega);have aF:V _:=BR.keep bx.o an yaa;have co:V (w.heap.size+2<=wr.heap.size):=bx.o.lt;clear t an bx ar;generalize ndI _ _ j=F at aF bw b0;have cI:=gK v.op;go_wp2_with fail;go_loopw [44] (λx W=>∃q:Nat,q<=cnt v.op/\x=hF q/\V (BR W (w.heap.size+1) (ii F ((eY v).take q)))/\V (Kept (w.heap.size+1) (w.heap.size+2) aG W)/\V (IS W wr.heap.size ag.heap.size (some ⟨r,0,none⟩) (cnt v.op) (eY v))) (λx _=>cnt v.op-(intOf x).toNat)
    case atStart=>exact⟨0,Nat.zero_le _,rfl,aF,bN,bU⟩
    case round=>
     obtain⟨q,ao,rfl,bx,ar,bn⟩:=hrel;clear aF bN bU;by_cases p:q<cnt v.op
     ·have af:=jw (by rw[ja];exact p);have cb:=a0.o _ af;obtain⟨m,em,aw⟩:∃m:Nat,(eY v).getD q 0=m/\m<ab:=⟨((eY v).getD q 0).toNat,by omega,by omega⟩
      obtain⟨aA,bK,bE,cc,aU,_,_,br⟩:=bn.o.at_idx (o:=q) xaa xaa;cases cc;rw[Int.toNat_natCast,em,Nat.zero_add]at br;obtain rfl:q=bE:=xaa;have ah:(ii F ((eY v).take q)).length=ab:=by rw[kX];exact b0.o
      have c2':=bx.o.cell m xaa;have cy:=bx.o.free m;have R1:V _:=BR.set bx.o m true;rw[show m=((eY v).getD q 0).toNat by omega,<-oJ _ _ (by rw[ja];exact p),<-show m=((eY v).getD q 0).toNat by omega]at R1;have K:=eU (lo:=w.heap.size+1) (hi:=w.heap.size+2) wr ⟨_,m,none⟩ (.bool true) yac;have R2:V _:=Kept.trans ar.o K;have R3:V _:=IS.keep bn.o K (hO co.o);generalize (ii F _).getD m _=z at c2';clear bx ar bn cb em ah K af;go_wp2;go_roundw;exact⟨q+1,by omega,by go_num,R1,R2,R3⟩;simp[intOf];omega
     obtain rfl:q=cnt v.op:=xaa
     have R1:V (BR wr (w.heap.size+1) (ndI vs outs (j+1))):=by
      have:=bx.o;rw[yao (by rw[ja];omega)]at this;show BR _ _ _;rw[bw.o];exact this
     have R2:V _:=ar.o;clear bx ar bn;exact xhl
   obtain rfl:j=ab:=xaa;have ap:(j:Int)-1-j=-1:=xaa;rw[ap];have R1:V _:=bx.o;have R2:V _:=HK.o.new ar.o xaa;clear bx ar;go_wp2;go_ret;exact⟨_,rfl,by omega,R1.o,R2.o⟩
def POg(w:World)(b1 b3:Option Addr)(g1 n1 c1 g2 g3 n3 c3:Nat)(ins:List Int)(M:List Vl×List Int)(e:Ending)(w':World):Prop:=
 ∃G2 n2 c2 us,e=.returned (eX b1 n1 c1 (some ⟨G2,0,none⟩) n2 c2 b3 n3 c3)/\PG w' g1 G2 g3 n1 n2 n3 ins us M.2/\us=M.1/\Kb us/\Chg (λb=>b=g2\/b=g3) w w'/\(G2=g2\/w.heap.size<=G2)
theorem dT.qfp(h:Zp:=by
 have q:V _:=KV _ N _ _ Y c1 _ _ c2 _ _ c3 _ _ (hP.v.keep (H.trans am) yaa) (hP.o.keep (H.trans am) yaa) (λi hi=>i8 (aM i xaa)) (λo h=>hO (ax o h)) b5 xaa U h3;exact qhr):Zp:=h
theorem dT.qhs(h:Zp:=by
 have H2:V _:=U;have H3:V _:=h3;clear U h3 hP b6 ci cz ct aM ax cp cA C bz H am s aT bx;obtain⟨_,a7,aK,aP⟩:=aH.o;go_enter func74,ntmps74;go_wp2_with fail;clear a7 aK aP;generalize (w.alloc _).alloc _=aG at aH aL HR aQ HK a2 q⊢;refine yai q.o ?_;rintro e ag ⟨G,rfl,bl,f,an⟩;have aw:=q7 ab ag xaa;have bh:=IR.made ag ab;have aJ:=ez 0 0 ag (.cells (madeCells #[hF 0] ab) 3);have bE:(ag.alloc (.cells (madeCells #[hF 0] ab) 3)).heap.size=ag.heap.size+1:=by simp
 have b7:=ez 0 0 (ag.alloc (.cells (madeCells #[hF 0] ab) 3)) (.cells #[] 40);have t:=World.ownsRow_made (base:=ag.heap.size+1) (e:=40) (size:=6) (ag.alloc (.cells (madeCells #[hF 0] ab) 3)) #[] 0 xaa (by unfold maxLen;omega) rfl;rw[bE]at t;have X:V _:=aH.o.keep (an.trans (aJ.trans b7));have ah:V _:=HR.o.keep (an.trans (aJ.trans b7));have cS:V _:=aL.o.keep (an.trans (aJ.trans b7));have b8:V _:=aQ.o.keep (an.trans (aJ.trans b7));have bU:V _:=HK.o.trans (an.trans (aJ.trans b7));have g:V _:=f.keep (aJ.trans b7) yaa;have aX:V (w.heap.size+1+1<=ag.heap.size/\G<ag.heap.size/\((ag.alloc (.cells (madeCells #[hF 0] ab) 3)).alloc (.cells #[] 40)).heap.size=ag.heap.size+1+1):=⟨hQ a2.o an.size,f.lt,by simp⟩
 have m:V (DI _ _ _ ab _ _ 0 (f9 (ndI vs outs ab) _ 0)):=
  ⟨by rw[f9,HL.o];exact bh.keep b7 yaa,by rw[f9,HL.o];simp,t,Chg.refl _ _,by simp⟩
 obtain⟨_,a7,aK,aP⟩:=aH.o.keep an;obtain⟨_,aW,aq,aN⟩:=X.o;clear q f an aJ b7 t bh bE aH HR aQ HK;go_wp2_with fail;clear a7 aK aP aW aq aN aw bl;generalize (ag.alloc _).alloc _=bj at X cS ah b8 bU g aX m⊢;go_loopw [5,18] (λbX x W=>∃i gk cap:Nat,i<=ab/\bX=hE gk (f9 (ndI vs outs ab) vs i).1.length cap/\x=hF i/\V (DI W bj ag.heap.size ab (ag.heap.size+1) gk cap (f9 (ndI vs outs ab) vs i))) (λ_ x _=>ab-(intOf x).toNat)
 case atStart=>exact⟨0,_,0,Nat.zero_le _,rfl,rfl,m⟩
 case round=>
  obtain⟨i,gk,cap,hi,rfl,rfl,aY⟩:=hrel;clear m;by_cases aB:i<ab
  ·obtain rfl:=H2.o xaa;have cV:=aY.o.ch.size;have bJ:=aX.o;have p:=b8.o.v.keepC aY.o.ch (hO bk.o);have bm:=p.at_ i aB;have cn:=i8 (b1.o i aB);have cJ:V _:=bm;have a8:=BR.keepC g.o aY.o.ch xaa;have ee:(ndI vs outs ab).length=ab:=by rw[lP];exact HL.o
   have b2:=a8.cell i xaa;have u:=BR.keep a8 (ez 0 0 _ (eM (vs.getD i hK).op (vs.getD i hK).len (vs.getD i hK).a (vs.getD i hK).b (vs.getD i hK).c (vs.getD i hK).k)) yaa;have cW:=u.cell i xaa;have l:=oK (ndI vs outs ab) vs i;cases hb:(ndI vs outs ab).getD i false
   ·have R:V (∀W,Kept 0 0 _ W->DI W _ _ _ _ _ _ (f9 _ _ _)):=λW bS=>by rw[tQ hb];exact aY.o.stay bS
    have HE:V (f9 _ vs _=f9 _ _ i):=tQ hb;rw[hb]at b2 cW;generalize vs.getD i _=v at bm cW;obtain⟨bd,aR,aV,bY,ce,cl⟩:=bm;clear hb ee l cn p a8 u aY cJ;go_wp2;go_roundw;exact⟨i+1,gk,cap,by omega,by rw[HE.o],by go_num,R.o _ (ez 0 0 _ _)⟩;simp[intOf];omega
   rw[hb]at b2 cW;have HE:V _:=B5 (vs:=vs) hb;generalize aM:vs.getD i _=v at bm cW cJ HE cn;generalize aU:f9 _ _ i=S at aY HE l;have cC:V _:=aY.o;have ea:S.1.length<=2000:=xaa;have eC:V _:=aY.o.tl
   have aA:V (∀W,Kept 0 0 _ W->_):=λW bS=>
    Lo W v _ _ _ ab ab _ (IR.isAt (IR.keep (IR.set (IR.keep aY.o.tq (ez 0 0 _ (eM v.op v.len v.a v.b v.c v.k)) yaa) i (S.1.length:Nat)) bS yaa) (by rw[List.length_set];exact aY.o.tl)) (λo h=>hO (cn o h))
   have F:=IR.keep aY.o.tq (ez 0 0 _ (eM v.op v.len v.a v.b v.c v.k)) yaa;have cr:=IR.cell F i (hR eC.o aB);have ds:=IR.free F i;generalize S.2.getD i 0=d0 at cr;have bu:V _:=me wr v;have au:ag.heap.size≠wr.heap.size:=xaa;have cI:=eI aY.o.own (k:=gk) rfl;have bO:V (ag.heap.size+1<=gk/\ag.heap.size+1<=wr.heap.size):=⟨cI.1,aY.o.bz⟩
   generalize rnm _ v=nv at HE aA;have c8:=eU (lo:=ag.heap.size) (hi:=ag.heap.size+1) (wr.alloc (eM v.op v.len v.a v.b v.c v.k)) ⟨ag.heap.size,i,none⟩ (hF (S.1.length:Nat)) yac;obtain⟨bI,bL,bM,cj,cx,cM⟩:=At.keep bu.o xac c8 xaa;obtain⟨bR,aS,bb,bq,bD,bg⟩:=bu.o;simp only[Nat.zero_add]at bL bM cj cx cM aS bb bq bD bg;obtain⟨bd,aR,aV,bY,ce,cl⟩:=bm;have aj:V _:=(aY.o.own)
   clear hb ee l cn p a8 u F cI aM cJ c8;go_wp2_with fail;refine yai (aA.o _ (Kept.refl _ _ _)) ?_;rintro e cf ⟨rfl,(cF:V _)⟩;have cX:V _:=(eW (eJ (cC.o.own.alloc _) (λc=>by have:=bO.o;simp[Value.ownBlock]at c;omega)) cF.o).alloc (.cells #[hF nv.op,hF nv.len,hF nv.a,hF nv.b,hF nv.c,.float .f64 nv.k] 40);have bw:V _:=uC cf nv 0;have aI:ag.heap.size+1<=cf.heap.size:=by have B:=cF.o.size;have U:=bO.o;simp at B;omega
   clear bI bL bM cj cx cM bd aR aV bY ce cl bR aS bb bq bD bg cr ds b2 cW;go_wp2_with (first|(at_builtin;refine wpList_append_lies _ rfl _ _ _ rfl _ 40 _ _ 6 _ underlying24 eS bn bQ br rfl xab _ _ _ (by rfl) cX.o _ 1 1 _ (by rfl) rfl bw.o (Ai _) xab (by unfold maxLen;omega) xaa yaf (cf.heap.size+1) xac ?_;intro g9 cap9 be bv a6 b9 ck));have R:V _:=DI.next cC.o (ez 0 0 _ _) cF.o yae bv a6 bO.o.1;clear bv a6 b9 ck;go_roundw;exact⟨i+1,g9,cap9,by omega,by rw[HE.o];simp,by go_num,hR HE.o R⟩;simp[intOf];omega
  obtain rfl:i=ab:=xaa;have cV:=aY.o.ch.size;have bJ:=aX.o;have l:=oK (ndI vs outs i) vs i;obtain⟨(O:V _),(dv:V _)⟩:=An aY.o.own rfl;have P:V _:=IR.isAt aY.o.tq aY.o.tl;have Q:V _:=G0.keepC X.o aY.o.ch xaa;have bW:V _:=RB.keepC ah.o aY.o.ch xaa;have ap:V _:=RB.keepC cS.o aY.o.ch xaa;have ak:V _:=IBk.keepC b8.o.i aY.o.ch (hO bk.o);have Z:V _:=IBk.keepC b8.o.o aY.o.ch (hO bk.o);have a0:V _:=H8 _ N aD _ Y c1 i c2 _ _ c3 _ _ _ i i _ _ Z.o P.o (hO bk.o) c7.o xaa H3.o;have a9:V (Chg (λb=>b=aC\/b=ay) w _):=Chg.new bU.o.chg aY.o.ch (λb hb c=>by omega);have ae:V (kE vs outs=((f9 (ndI vs outs i) vs i).1,jO (f9 (ndI vs outs i) vs i).2 outs)):=by show _=_;unfold kE;rw[HL.o]
  have bA:V _:=ph cq.o (ndI vs outs i) i;clear aY;obtain⟨_,bi,a5,p2⟩:=Q.o;go_wp2_with fail;clear bi a5 p2;refine yai a0.o ?_;rintro e bF ⟨rfl,z,an⟩;generalize ar:f9 _ _ i=S at O P ae bA z l⊢;have y:V _:=G0.keepT Q.o an (hO bk.o);have cB:V _:=O.o.keep an (hQ bk.o dv.o);have ao:V _:=ak.o.keep an (hO bk.o);have af:V _:=z;have bN:V _:=Chg.trans a9.o (an.chg1 (.inr rfl));have bP:V _:=RB.keepC bW.o (an.chg1 rfl) (hO bk.o);have aF:V _:=RB.keepC ap.o (an.chg1 rfl) (hO bk.o);clear z a0 Q O P ak Z a9 ar;obtain⟨_,bi,a5,p2,av,ba,bc⟩:=aF.o;obtain⟨_,bo,az,aZ,bH,f1,f2⟩:=bP.o;have al:w.heap.size+1≠w.heap.size:=xaa;go_wp2_with fail;have cd:=eU (lo:=w.heap.size) (hi:=w.heap.size+1) bF ⟨w.heap.size,1,none⟩ (hE gk S.1.length cap) yac;have r:=RB.keepC bP.o (cd.chg1 rfl) xaa;obtain⟨bd,aR,aV⟩:=fg _ _ _ _ _ r.q0 r.q1 r.q2 (.slice N Y c1) (hE gk S.1.length cap) (.slice ad aa c3);have K:=fh (bF.setCell ⟨w.heap.size,1,none⟩ (hE gk S.1.length cap)) (w.heap.size+1) (.slice N Y c1) (hE gk S.1.length cap) (.slice ad aa c3);refine yay (v:=eX N Y c1 (some ⟨gk,0,none⟩) S.1.length cap ad aa c3) (by simp[results,results74,go_sem,bd,aR,aV]) rfl ⟨gk,S.1.length,cap,S.1,rfl,⟨?_,?_,?_,?_,?_,?_⟩,?_,bA.o,?_,.inr (hO dv.o)⟩
  ·exact(ao.o.keep cd (hO bk.o)).keep K (hO bk.o)
  ·exact(cB.o.keep cd (hO dv.o)).keep K (hO dv.o)
  ·rw[ae.o];exact(af.o.keep cd (hO bk.o)).keep K (hO bk.o)
  ·have:=bk.o;have:=dv.o;omega
  ·exact bk.o.2.2.2.2.1
  ·have:=bk.o;have:=dv.o;omega
  ·rw[ae.o]
  exact Chg.new (Chg.new bN.o (cd.chg1 rfl) (λb hb c=>by omega)) (K.chg1 rfl) (λb hb c=>by omega)):Zp:=h
open dT in
theorem Pz(w N aD ad bG Y c1 aC ab c2 ay aa c3 ins vs outs)(hP:PG w bG aC ay Y ab aa ins vs outs)(b6:okG ins vs outs=true)(s:Kb vs)(U:0<ab->aD=some ⟨aC,0,none⟩)(h3:0<aa->ad=some ⟨ay,0,none⟩):
  Calls prog 74 #[eX N Y c1 aD ab c2 ad aa c3] w λe J=>POg w N ad bG Y c1 aC ay aa c3 ins (kE vs outs) e J:=by
 obtain⟨bC,eS,bn,bQ,br⟩:=info_parts rK;obtain⟨⟨ci,cz,ct⟩,_,aM,ax,_⟩:=gM b6;have cp:=hP.v.len;have cA:=hP.o.len;have b5:ab<=2000:=xaa;have cU:aa<=50:=xaa;have b1:V (∀j,j<ab->_):=λj hj=>aM j xaa;have c7:V (∀o∈outs,0<=o/\o<ab):=λo h=>hO (ax o h)
 have HL:V _:=cp;have cq:V _:=s;have H:=ez 0 0 w (eZ N Y c1 aD ab c2 ad aa c3);have aT:=fO w (.slice N Y c1) (.slice aD ab c2) (.slice ad aa c3);have bx:=tP w (.slice N Y c1) (.slice aD ab c2) (.slice ad aa c3);have bz:(w.alloc (eZ N Y c1 aD ab c2 ad aa c3)).heap.size=w.heap.size+1:=by simp
 have am:=ez 0 0 (w.alloc (eZ N Y c1 aD ab c2 ad aa c3)) fE;have C:=gg (w.alloc (eZ N Y c1 aD ab c2 ad aa c3));rw[bz]at C;have aH:V _:=aT.keep am;have aL:V _:=bx.keep am;have HR:V _:=C;have aQ:V _:=hP.keep (H.trans am);have HK:V _:=H.trans am;exact qfo
def LsI(w:World)(b:Option Addr)(n c:Nat)(xs:List Int):Prop:=xs.length=n/\((b=none/\n=0/\c=0)\/∃g,b=some ⟨g,0,none⟩/\IE w g xs)
def LsV(w:World)(b:Option Addr)(n c:Nat)(vs:List Vl):Prop:=vs.length=n/\((b=none/\n=0/\c=0)\/∃g,b=some ⟨g,0,none⟩/\VA w g n vs)
theorem LsI.keep(h:LsI w b n c xs)(k:Kept 0 0 w J):LsI J b n c xs:=⟨h.1,h.2.imp id λ⟨g,e,f⟩=>⟨g,e,f.keep k yaa⟩⟩
theorem LsV.keep{vs}(h:LsV w b n c vs)(k:Kept 0 0 w J):LsV J b n c vs:=⟨h.1,h.2.imp id λ⟨g,e,f⟩=>⟨g,e,f.keep k yaa⟩⟩
theorem LsI.is(h:LsI w b n c xs):IS w 0 w.heap.size b n xs:=by
 obtain⟨rfl,⟨rfl,ai,_⟩|⟨g,rfl,f⟩⟩:=h
 ·exact⟨rfl,.inl ai⟩
 exact f.is
theorem LsV.vs{vs}(h:LsV w b n c vs)(O:Kb vs):VS w 0 w.heap.size b n vs:=by
 obtain⟨ah,⟨rfl,ai,_⟩|⟨g,rfl,f⟩⟩:=h
 ·exact⟨ah,O,.inl ai⟩
 exact f.vs O
theorem Ce{W}(h:W.ownsRow I 3 1 (.slice a n c) n (xs.map (Value.int .i64)))(ah:xs.length=n):LsI W a n c xs:=by
 refine⟨ah,?_⟩;rcases h.2 with⟨e,ai⟩|⟨g,cap,H,e,_⟩
 ·cases e;exact .inl ⟨rfl,rfl,rfl⟩
 cases e;have q:=Bx h ah;exact .inr ⟨g,rfl,q.lt,λk O=>q.at_ k xaa⟩
theorem LP{W vs}(h:W.ownsRow I 40 6 (.slice a n c) n (fW vs))(ah:vs.length=n):LsV W a n c vs:=by
 refine⟨ah,?_⟩;rcases h.2 with⟨e,ai⟩|⟨g,cap,H,e,_⟩
 ·cases e;exact .inl ⟨rfl,rfl,rfl⟩
 cases e;exact .inr ⟨g,rfl,(An h ah).1⟩
theorem Cf(h:LsI w b n c xs)(hn:n<=1000000):Calls prog 79 #[.slice b n c] w λe J=>∃I d,e=.returned (.slice I n d)/\J.ownsRow w.heap.size 3 1 (.slice I n d) n (xs.map (Value.int .i64))/\Kept 0 0 w J:=by
 obtain⟨ah,⟨rfl,rfl,rfl⟩|⟨g,rfl,f⟩⟩:=h
 ·obtain rfl:=List.eq_nil_of_length_eq_zero ah
  have i:(binOp .eql 23 (.slice none 0 0) (.slice none 0 0)).run prog w=.ok (.bool true) w:=by
   simp only[binOp];simp[run_equal_slice_nil w 23 3 none 0 0 underlying23]
  go_enter func79,ntmps79;exact xjk
 exact(Mn w g n c _ hn f ah).mono λe J ⟨G,_,B,_,_,U,h3⟩=>⟨_,_,B,U,h3⟩
theorem KY{vs}(h:LsV w b n c vs)(hn:n<=1000000):Calls prog 80 #[.slice b n c] w λe J=>∃I d,e=.returned (.slice I n d)/\J.ownsRow w.heap.size 40 6 (.slice I n d) n (fW vs)/\Kept 0 0 w J:=by
 obtain⟨ah,⟨rfl,rfl,rfl⟩|⟨g,rfl,f⟩⟩:=h
 ·obtain rfl:=List.eq_nil_of_length_eq_zero ah
  have i:(binOp .eql 24 (.slice none 0 0) (.slice none 0 0)).run prog w=.ok (.bool true) w:=by
   simp only[binOp];simp[run_equal_slice_nil w 24 40 none 0 0 underlying24]
  go_enter func80,ntmps80;exact xjk
 exact(Mo w g n c _ hn f).mono λe J ⟨G,_,B,_,_,U,h3⟩=>⟨_,_,B,U,h3⟩
theorem A9(w:World)(xs T):IBk (w.alloc (.cells xs T)) w.heap.size 0 []:=⟨rfl,by simp,λk O=>by omega,λo=>World.frozen?_alloc_at _ _ w.heap.size o rfl⟩
theorem cM.qcq(h:Zp:=by
 have bl:=A9 (w.alloc (eZ N Y c1 aD ab c2 ad aa c3)) #[.slice none 0 0,.slice none 0 0,.slice none 0 0] 26;rw[bz]at C bl;have HR:V _:=C;have bk:V _:=bl;have h:V _:=(A9 w _ _).keep i yaa;have HK:V _:=H.trans i;have bZ:V _:=B.keep (H.trans i);have ao:V _:=U.keep (H.trans i);have l:V _:=h3.keep (H.trans i);have ch:V (((w.alloc (eZ N Y c1 aD ab c2 ad aa c3)).alloc fE).heap.size=w.heap.size+1+1):=by show _=_;simp
 clear B U h3 H i bz C bl;obtain⟨_,a7,aK,aP⟩:=aH.o;go_enter func50,ntmps50;go_wp2_with fail;generalize (w.alloc _).alloc _=aG at aH HR HK bZ ao l ch bk h a7 aK aP⊢;have al:w.heap.size≠w.heap.size+1:=xaa
 go_region_held3 (λJ=>J.cell? ⟨w.heap.size,0,none⟩=some (.slice N Y c1)/\J.cell? ⟨w.heap.size,1,none⟩=some (.slice aD ab c2)/\J.cell? ⟨w.heap.size,2,none⟩=some (.slice ad aa c3)) (first|go_keep|(simp only[E4 _ _ _ _ _ _ _ al];exact⟨bo,az,aZ⟩))
  (first
   |(go_at_call 79;refine yai (Cf (LsI.keep l.o z) cu) ?_;rintro e bj ⟨r,d3,rfl,cc,aJ⟩;have f:=Kept.trans z aJ;obtain⟨_,bo,az,aZ⟩:=G0.keep aH.o f;obtain⟨_,b8,Q,bh,bH,f1,f2⟩:=RB.keep HR.o f)
   |(go_at_call 80;refine yai (KY (LsV.keep ao.o j) xaa) ?_;rintro e a8 ⟨t,d2,rfl,bO,an⟩;have z:=Kept.trans j an;obtain⟨_,bf,aO,aX⟩:=G0.keep aH.o z)
   |(go_at_call 79;refine yai (Cf (LsI.keep bZ.o (eL 0 0 _ 1)) bJ) ?_;rintro e ag ⟨q,d1,rfl,bV,am⟩;have j:=Kept.trans (eL 0 0 _ 1) am;obtain⟨_,aW,aq,aN⟩:=G0.keep aH.o j))
 have bQ:(aG.drewN 1).heap.size=w.heap.size+1+1:=ch.o;have bn:aG.drew.heap.size=w.heap.size+1+1:=ch.o;have br:(aG.drewN 1).heap.size<=ag.heap.size:=am.size;have bE:=an.size;have aY:V (Apart _ _/\Apart _ _/\Apart (.slice _ _ _) _):=⟨mX bV bO yad,mX bV cc bE,mX bO cc yad⟩
 have H1:V (bj.ownsRow (w.heap.size+2) 3 1 _ _ _):=jc (eW bV (an.trans aJ)) xaa;have H2:V (bj.ownsRow (w.heap.size+2) _ 6 _ _ _):=jc (eW bO aJ) xaa;have H3:V (bj.ownsRow (w.heap.size+2) 3 1 _ _ _):=jc cc xaa;have bU:V _:=HK.o.trans f;have e3:V _:=bk.o.keep f yaa;have dp:V _:=h.o.keep f yaa;clear a7 aK aP aW aq aN bf aO aX bo az aZ bV bO cc am an aJ j z f bn bQ br bE bZ ao l aH;go_wp2_with fail;obtain⟨bd,aR,aV⟩:=fg _ _ _ _ _ b8 Q bh (.slice q Y d1) (.slice t ab d2) (.slice r aa d3);have K:=fh bj (w.heap.size+1) (.slice q Y d1) (.slice t ab d2) (.slice r aa d3);have own:∀{u:Value}{xs:List _}{m e s:Nat},bj.ownsRow _ e s u m _->(fF bj _ _ _ _).ownsRow (w.heap.size+2) e s u m xs:=λo=>fY o K λb hb=>hO ((eI o hb).1)
 refine yay (v:=eX q Y d1 t ab d2 r aa d3) (by simp[results,results50,go_sem,bd,aR,aV]) rfl ⟨q,d1,t,d2,r,d3,rfl,⟨own H1.o,own H2.o,own H3.o⟩,aY.o,⟨dp.o.keep K xaa,rfl,yaj e3.o.lt K.size,λk O=>by omega,λo=>?_⟩,bU.o.new K xaa⟩;have:=e3.o.free o;simpa using this):Zp:=h
open cM in
theorem PA(w N aD ad Y c1 ab c2 aa c3 ins vs outs)(B:LsI w N Y c1 ins)(U:LsV w aD ab c2 vs)(h3:LsI w ad aa c3 outs)(bJ:Y<=1000000)(b5:ab<=2000)(cu:aa<=1000000):
  Calls prog 50 #[eX N Y c1 aD ab c2 ad aa c3] w λe J=>∃q d1 t d2 r d3,e=.returned (eX q Y d1 t ab d2 r aa d3)/\(J.ownsRow (w.heap.size+2) 3 1 (.slice q Y d1) Y (ins.map (Value.int .i64))/\J.ownsRow (w.heap.size+2) 40 6 (.slice t ab d2) ab (fW vs)/\J.ownsRow (w.heap.size+2) 3 1 (.slice r aa d3) aa (outs.map (Value.int .i64)))/\(Apart (.slice q Y d1) (.slice t ab d2)/\Apart (.slice q Y d1) (.slice r aa d3)/\Apart (.slice t ab d2) (.slice r aa d3))/\(IBk J w.heap.size 0 []/\IBk J (w.heap.size+1) 0 [])/\Kept 0 0 w J:=by
 have H:=ez 0 0 w (eZ N Y c1 aD ab c2 ad aa c3);have i:=ez 0 0 (w.alloc (eZ N Y c1 aD ab c2 ad aa c3)) fE;have aH:V _:=(fO w _ _ _).keep i;exact qcp
def Sl(b:Option Addr)(n c g:Nat):Prop:=(b=none/\n=0/\c=0)\/b=some ⟨g,0,none⟩
theorem Sl.pos{g}(h:Sl b n c g)(hn:0<n):b=some ⟨g,0,none⟩:=by
 rcases h with⟨_,ai,_⟩|h
 ·omega
 exact h
end
section
open Go.RowKit Flt
attribute[local go_sem] eF eE eD lT
variable{base n s d:Nat}{I:Option Addr}{xs:List Int}
theorem Sl.ni{w b c g}(h:Sl b n c g)(f:IBk w g n xs):LsI w b n c xs:=⟨f.len,h.imp id λe=>⟨g,e,f.lt,λk O=>f.at_ k (hS f.len O)⟩⟩
theorem H9{W}(h:W.ownsRow base 3 1 (.slice I n d) n (xs.map (Value.int .i64)))(ah:xs.length=n)(g:IBk W s 0 []):∃G,IBk W G n xs/\Sl I n d G/\((G=s/\I=none)\/(base<=G/\I=some ⟨G,0,none⟩)):=by
 rcases h.2 with⟨e,ai⟩|⟨aA,cap,H,e,N,_⟩
 ·cases e;obtain rfl:=List.eq_nil_of_length_eq_zero ah;exact⟨s,g,.inl ⟨rfl,rfl,rfl⟩,.inl ⟨rfl,rfl⟩⟩
 cases e;exact⟨aA,Bx h ah,.inr rfl,.inr ⟨N,rfl⟩⟩
theorem KZ{W vs}(h:W.ownsRow base 40 6 (.slice I n d) n (fW vs))(ah:vs.length=n)(g:IBk W s 0 []):∃G,VA W G n vs/\Sl I n d G/\((G=s/\I=none)\/(base<=G/\I=some ⟨G,0,none⟩)):=by
 rcases h.2 with⟨e,ai⟩|⟨aA,cap,H,e,N,_⟩
 ·cases e;obtain rfl:=List.eq_nil_of_length_eq_zero ah;exact⟨s,⟨rfl,g.lt,λk O=>by omega,g.free⟩,.inl ⟨rfl,rfl,rfl⟩,.inl ⟨rfl,rfl⟩⟩
 cases e;exact⟨aA,(An h ah).1,.inr rfl,.inr ⟨N,rfl⟩⟩
theorem Ia{a b t A m e}(a2:(a=s/\A=none)\/(base<=a/\A=some ⟨a,0,none⟩))(aT:(b=t/\I=none)\/(base<=b/\I=some ⟨b,0,none⟩))(ae:s≠t/\s<base/\t<base)(bJ:Apart (.slice A n d) (.slice I m e)):a≠b:=by
 rcases a2 with⟨B,_⟩|⟨B,rfl⟩<;>rcases aT with⟨U,_⟩|⟨U,rfl⟩
 ·omega
 ·omega
 ·omega
 intro c;exact bJ a rfl (hU c)
end
section
open Go.RowKit Flt Go.Maps
attribute[local go_sem] eF eE eD
def POk(w:World)(b1 b3:Option Addr)(g1 n1 c1 g2 g3 n3 c3:Nat)(ins:List Int)(M:List Vl×List Int)(e:Ending)(w':World):Prop:=
 ∃B2 G2 n2 c2 us,e=.returned (eX b1 n1 c1 B2 n2 c2 b3 n3 c3)/\Sl B2 n2 c2 G2/\PG w' g1 G2 g3 n1 n2 n3 ins us M.2/\Lk us M.1/\Kb us/\Chg (λb=>b=g2\/b=g3) w w'/\(G2=g2\/w.heap.size<=G2)
end
section
open Go.RowKit Flt
attribute[local go_sem] eF eE eD lT
variable{w:World}{ins:List Int}
theorem POg.k{N ad bG Y c1 aC ay aa c3 M e J}(h:POg w N ad bG Y c1 aC ay aa c3 ins M e J):POk w N ad bG Y c1 aC ay aa c3 ins M e J:=by
 obtain⟨l,ab,c2,us,B,U,rfl,a6⟩:=h;exact⟨_,l,ab,c2,M.1,B,.inr rfl,U,Lk.refl _,a6⟩
structure OpK(w W:World)(O R:Nat)(B1 B2 B3:Option Addr)(G1 n1 d1 G2 n2 d2 G3 n3 d3:Nat)(ins:List Int)(us:List Vl)(M:List Vl×List Int):Prop where
 pg:PG W G1 G2 G3 n1 n2 n3 ins us M.2
 sl:Sl B2 n2 d2 G2
 lk:Lk us M.1
 kb:Kb us
 ob:RB W O (.slice B1 n1 d1) (.slice B2 n2 d2) (.slice B3 n3 d3)
 res:RB W R (.slice none 0 0) (.slice none 0 0) (.slice none 0 0)
 ne:G1≠R/\G2≠R/\G3≠R
 ke:Kept 0 0 w W
theorem Ib{W W' W2 au R j Y d1 l ab d2 F aa d3 G2' n2' c2' q t r B2' us M}(out:RB W au (.slice q Y d1) (.slice t ab d2) (.slice r aa d3))(e:RB W R (.slice none 0 0) (.slice none 0 0) (.slice none 0 0))(ne:(j≠au/\l≠au/\F≠au)/\(j≠R/\l≠R/\F≠R)/\au≠R)(lo:w.heap.size<=au/\w.heap.size<=l/\w.heap.size<=F)(f:Kept 0 0 w W)(k:Kept 0 0 W W')
  (ae:Sl B2' n2' c2' G2') (aF:PG W2 j G2' F Y n2' aa ins us M.2) (ah:Lk us M.1) (O:Kb us) (ak:Chg (λb=>b=l\/b=F) W' W2) (aQ:G2'=l\/W'.heap.size<=G2'):RB W2 au (.slice q Y d1) (.slice t ab d2) (.slice r aa d3)/\OpK w (LI W2 au (.slice q Y d1) (.slice B2' n2' c2') (.slice r aa d3)) au R q B2' r j Y d1 G2' n2' c2' F aa d3 ins us M:=by
 obtain⟨⟨af,a0,aj⟩,⟨e4,bW,J⟩,h⟩:=ne;have y:=out.sz;have C:=e.sz;have bz:=k.size;have bO:=(out.keep k).keepC ak xaa;have K:=fh W2 au (.slice q Y d1) (.slice B2' n2' c2') (.slice r aa d3);have b0:Chg (λb=>b=au) W2 (LI W2 au (.slice q Y d1) (.slice B2' n2' c2') (.slice r aa d3)):=K.chg1 rfl;have m:G2'≠au:=by rcases aQ with c|c<;>omega
 have g:G2'≠R:=by rcases aQ with c|c<;>omega
 exact⟨bO,⟨aF.i.keep K xaa,aF.v.keep K xaa,aF.o.keep K xaa,aF.d12,aF.d13,aF.d23⟩,ae,ah,O,pi bO _ _ _,((e.keep k).keepC ak xaa).keepC b0 xaa,⟨e4,g,J⟩,(Chg.kept (S:=λb=>b=l\/b=F) (f.trans k) ak (λi hi=>by omega)).new K xaa⟩
def PRk(w:World)(n1 n3:Nat)(ins:List Int)(M:List Vl×List Int)(e:Ending)(w':World):Prop:=
 ∃B1 d1 B2 n2 d2 B3 d3 us,e=.returned (.tuple #[eX B1 n1 d1 B2 n2 d2 B3 n3 d3,.int .i64 0])/\LsI w' B1 n1 d1 ins/\LsV w' B2 n2 d2 us/\LsI w' B3 n3 d3 M.2/\((∀g,B2=some ⟨g,0,none⟩->w.heap.size<=g)/\(∀g,B1=some ⟨g,0,none⟩->w.heap.size<=g)/\∀g,B3=some ⟨g,0,none⟩->w.heap.size<=g)/\Lk us M.1/\Kb us/\Kept 0 0 w w'
theorem Sl.lv{b n c g vs}(h:Sl b n c g)(f:VA w g n vs):LsV w b n c vs:=⟨f.len,h.imp id λe=>⟨g,e,f⟩⟩
end
section
open Go.RowKit Flt
attribute[local go_sem] eF eE eD
theorem dW.qhe(h:Zp:=by
 clear H ch;go_wp2_with fail;go_region_held3 (λW:World=>W.cell? ⟨w.heap.size,0,none⟩=some (.slice N Y d1)/\W.cell? ⟨w.heap.size,1,none⟩=some (hE bx us.length cap)/\W.cell? ⟨w.heap.size,2,none⟩=some (.slice ad aa d3)/\W.cell? ⟨a6,s,none⟩=some (hF mm)) (first|go_keep|(exact⟨(cX.o _ _ _ _).trans aW,(cX.o _ _ _ _).trans aq,(cX.o _ _ _ _).trans aN,cO.o _ _ _⟩)) (fail)
 all_goals
  go_wp2_with fail
  refine yay (v:=.tuple #[eX N Y d1 (some ⟨bx,0,none⟩) us.length cap ad aa d3,hF mm]) (by simp[results,results158,go_sem,bd,aR,aV]) rfl ⟨?_,R1.o.2⟩
  rw[C.o]
  exact⟨_,_,_,_,_,_,rfl,R1.o.1.1,R1.o.1.2.1,R1.o.1.2.2,ej.o⟩):Zp:=h
open dW in
theorem Oi(w P af aC Y c1 ab c2 aa c3)(s x t:Nat)(ins vs outs)(f:GS w P Y (some ⟨aC,0,none⟩) ab af aa ins vs outs)(c7:VA w aC ab vs)(bJ:Y<=1000000)(b5:ab<=2000)(cu:aa<=1000000)(b6:(List.range ab).all (okV ins vs)=true)(cG:fd vs<=50000)(ae:s<ab)(ap:x<ab):
  Calls prog 158 #[eX P Y c1 (some ⟨aC,0,none⟩) ab c2 af aa c3,hF s,hF x,hF t] w λe J=>vw w J Y aa ins outs (jZ vs s x t) e/\Kept 0 0 w J:=by
 have cN:Kept 0 0 w ((w.alloc (eZ P Y c1 (some ⟨aC,0,none⟩) ab c2 af aa c3)).alloc fE):=(ez 0 0 w _).trans (ez 0 0 _ _);have aH:V _:=(fO w (.slice P Y c1) (hE aC ab c2) (.slice af aa c3)).keep (ez 0 0 _ fE);have b2:V (∀o,((w.alloc (eZ P Y c1 (some ⟨aC,0,none⟩) ab c2 af aa c3)).alloc fE).frozen? ⟨w.heap.size,o,none⟩=false):=λo=>by simp
 have bB:=gg (w.alloc (eZ P Y c1 (some ⟨aC,0,none⟩) ab c2 af aa c3));rw[show(w.alloc _).heap.size=w.heap.size+1 by simp]at bB;have HR:V _:=bB;have bu:V _:=qN _ _ _ _ _ c1 _ c2 _ c3 _ _ _ (f.keep cN) bJ xaa cu;have b0:V _:=f.v.len;have cH:V _:=b6;have cf:V _:=cG;clear bB cN f b6 cG;go_enter func158,ntmps158;go_wp2_with fail;refine yai bu.o ?_;rintro e aG ⟨N,d1,Z,d2,ad,d3,rfl,bV,bO,cc,⟨aK,aP,b3⟩,aJ⟩;have co:V _:=LJ.start b0.o aH.o b2.o HR.o aJ bV bO cc aK aP b3;obtain⟨_,bi,a5,p2⟩:=aH.o.keep aJ;have bH:=(aJ.frozen aH.o.sz xaa).trans (b2.o 0);have f1:=(aJ.frozen aH.o.sz xaa).trans (b2.o 1);have f2:=(aJ.frozen aH.o.sz xaa).trans (b2.o 2);obtain⟨bd,aR,aV⟩:=fg _ _ _ _ _ bi a5 p2 (.slice N Y d1) (.slice Z ab d2) (.slice ad aa d3);obtain⟨bz,f6,aU,cI,au,_,a2⟩:=mb bO xaa b0.o;injection aU with ew eB eS;subst ew;have aM:(fF _ w.heap.size (.slice N Y d1) (hE bz ab d2) (.slice ad aa d3)).cell? _=some _:=(mi _ _ _ _ _ _ _ (by simp at cI;omega)).trans (a2.at_ s ae).c1;clear bV bO cc aK aP b3 bu aH b2 HR a2 eB eS au aJ;go_upto_region 2 with fail;clear bi a5 p2 bH f1 f2;unfold fF at co aM;generalize ((aG.setCell _ _).setCell ⟨_,1,_⟩ _).setCell _ _=dp at co aM bd aR aV⊢;have aw:=q7 ab dp xaa;have cT:V _:=co.o _ (IR.made _ _) (ez 0 0 _ _);generalize cq:(vs.getD s _).len=G at aM;have ei:V _:=cq;generalize cB:((w.alloc (eZ P _ _ _ _ _ _ _ _)).alloc _).heap.size=base at cT;clear cq cB co cI;generalize dp.alloc _=ag at aw cT;have b8:(0:Int)<=s:=xaa;have Q:(s:Int)<ab:=xaa;go_wp2_with fail;clear aw aM bd aR aV;generalize dp.heap.size=a6 at cT⊢;go_loopw [12] (λv W=>∃k:Nat,k<=ab/\v=hF k/\V (LJ w W a6 N Y d1 ad aa d3 ins outs vs (lG k ab) base (hE bz ab d2).ownBlock (some ⟨bz,0,none⟩) d2)) (λv _=>ab-(intOf v).toNat)
 case atStart=>exact⟨0,Nat.zero_le _,rfl,by unfold lG;exact cT⟩
 case round=>
  obtain⟨k,O,rfl,aj⟩:=hrel;clear cT;by_cases aB:k<ab
  ·have c1:=aj.o.m.cell k (by rw[uF k _ O];exact aB);have c2:=aj.o.m.free k
   have R1:V (LJ w (wr.setCell ⟨a6,k,none⟩ (hF (-1))) a6 N Y d1 ad aa d3 ins outs vs (lG (k+1) ab) base (hE bz ab d2).ownBlock (some ⟨bz,0,none⟩) d2):=by
    have:=aj.o.set k (-1);rw[uH aB]at this;exact this
   clear aj;generalize (lG k _).getD k 0=z at c1;exact xis
  obtain rfl:k=ab:=xaa;have di:=aj.o;rw[uG]at di;have cy:=di.m.cell x yaf;have eT:=di.m.free x
  have eu:V (∃R Z cap,LJ w _ _ _ _ _ _ _ _ _ _ (jst _ x t 0).1 (jst _ x t 0).2 _ R Z cap):=⟨_,_,_,by
   have:=di.set x (t:Int)
   unfold jst
   rw[b0.o]
   exact this⟩
  clear aj di;generalize (List.replicate k (-1:Int)).getD x 0=z at cy;have bh:(0:Int)<=x:=xaa;have cJ:(x:Int)<k:=xaa;go_wp2_with fail;clear cy eT;go_loopw [13] (λv W=>∃j:Nat,j<=s-x/\v=hF (x+1+j:Nat)/\V (∃R Z cap,LJ w W a6 N Y d1 ad aa d3 ins outs (jst vs x t j).1 (jst vs x t j).2 base R Z cap)) (λv _=>s+1-(intOf v).toNat)
  case atStart=>exact⟨0,Nat.zero_le _,by simp,eu⟩
  case round=>
   obtain⟨j,hj,rfl,aj⟩:=hrel;clear eu;obtain⟨R,Z,cap,aj⟩:=aj.o
   have fz:vs.length<=(jst vs x t j).1.length:=by
    obtain⟨r,h⟩:=wD vs x t j;rw[h,yak];omega
   obtain⟨bx,rfl,rfl,b9,a2⟩:=aj.read (hO b0.o);by_cases aB:j<s-x
   ·have cz:x+1+j<k:=xaa;have bm:=a2 (x+1+j) (hO b0.o);rw[By _ x t j (hO b0.o)]at bm;have cW:=List.all_eq_true.1 cH.o _ (List.mem_range.2 cz);have cD:=AH cW;have a0:V _:=mG cW;have dd:V _:=λh=>FV _ x t j (hO b0.o) (AG h (xn vs x t j));have c9:V _:=xn vs x t j;have cd:V (jst _ x t (j+1)=((jst _ x t j).1++(jmv vs _ _).1,(jst _ x t j).2.set (x+1+j) _)):=rfl;have U:V (jmv vs (x+1+j) (jst vs x t j)=mvM _ _ _ _ _ _):=rfl;have ah:∀q,q<vs.length->_:=λq ao=>iq (List.all_eq_true.1 cH.o q (List.mem_range.2 (hO b0.o)));obtain⟨aS,_,_⟩:=sQ _ x t ah (mZ _ (λq ao=>hO (ah q ao))) cf.o j (hO b0.o);have cU:V ((jst vs x t j).1.length<=800000/\k<=(jst vs x t j).1.length/\(jst _ x t j).2.length=k):=⟨hO b0.o,hO b0.o,by rw[wC];exact b0.o⟩
    have bT:V _:=aj.keep (ez 0 0 _ (.cells #[hF (-1),hF (-1),hF (-1)] 3));have cw:V _:=aj.oth yad;have cR:V (IR _ _ [ovs (vs.getD (x+1+j) hK) (jst vs x t j).2 0 0,ovs (vs.getD (x+1+j) hK) (jst vs x t j).2 0 1,ovs (vs.getD (x+1+j) hK) (jst vs x t j).2 0 2]):=ir3 wr (-1) (-1) (-1);have e3:(x+1+j:Nat)<=(s:Int):=xaa;have gE:x+1+j<=s:=xaa;clear a2 aj fz ah aS cW bm b9;generalize en:vs.getD _ _=v at cD a0 dd U cR;have ds:V _:=en;clear en;generalize ed:(jst _ x t j).2=aL at dd c9 cd U cU bT cR;generalize eg:(jst _ x t j).1=us at cd U cU bT;have cr:V ((jst _ x t j).1=us/\(jst _ x t j).2=aL):=⟨eg,ed⟩
    clear ed eg;generalize hi:x+1+j=i at a0 ds dd cd U e3 cz gE;have bU:V _:=hi;clear hi;go_wp2_with fail;generalize wr.alloc _=fi at bT cR⊢;generalize wr.heap.size=F at cR cw⊢
    have e1:us.getD i hK=v:=by
     rw[<-cr.o.1,<-bU.o,By _ x t j (hQ bU.o b0.o),bU.o];exact ds.o
    have ep:V _:=e1;have cK:i<us.length:=hO cU.o
    have ee:=gK v.op;clear e1;go_loopw [15,16] (λsv bX W=>∃q:Nat,q<=cnt v.op/\sv=.bool (r6 v aL q)/\bX=hF q/\V (IR W F [ovs v aL q 0,ovs v aL q 1,ovs v aL q 2])/\V (LJ w W a6 N Y d1 ad aa d3 ins outs us aL base (some bx) (some ⟨bx,0,none⟩) cap)) (λ_ bX _=>3-(intOf bX).toNat)
    case atStart=>exact⟨0,Nat.zero_le _,rfl,rfl,cR,bT⟩
    case round=>
     obtain⟨q,ao,rfl,rfl,bn,bQ⟩:=hrel;clear bT cR;obtain⟨bZ,bg,_,b9,a2⟩:=bQ.o.read xaa;cases bg;have bm:=a2 i cK;rw[ep.o]at bm;obtain⟨bd,aR,aV,bY,ce,cl⟩:=bm;have aq:=bQ.o.g.c1;have bC:(0:Int)<=i:=xaa;have cA:(i:Int)<us.length:=xaa;have HO:V _:=e8 _ wr cD.1 cD.2;rw[Mq cD.1 cD.2]at HO;clear a2 b9;by_cases ct:q<cnt v.op
     ·obtain⟨ax,bk⟩:=a0.o q ct;obtain⟨B,aY⟩:=Int.eq_ofNat_of_zero_le ax;have cp:V _:=mE wr v q xaa;rw[aY]at cp;have e7:B<k:=xaa
      have bD:V (r6 v aL (q+1)=(r6 v aL q||decide (0<=aL.getD B 0))):=by
       have:=CZ v aL q;rw[aY,Int.toNat_natCast]at this;exact this
      have dg:V (([ovs v aL q 0,ovs v aL q 1,ovs v aL q 2]:List _).set q (aL.getD B 0)=[ovs v aL (q+1) 0,ovs v aL (q+1) 1,ovs v aL (q+1) 2]):=by
       have:=FW v aL q xaa;rw[aY,Int.toNat_natCast]at this;exact this
      have tq:q<(cnt v.op:Int):=xaa;clear ax bk aY;go_wp2_with fail;refine yai HO.o ?_;rintro e J ⟨rfl,rfl⟩;clear HO;go_wp2_with fail;refine yai cp.o ?_;rintro e bj ⟨rfl,b7⟩;have bq:=bQ.o.keep b7;have cn:=IR.keep bn.o b7 yaa;have cm:=bq.m.cell B (hO cU.o);have ck:=cn.cell q yaf;have dv:=cn.free q
      have R1:V (IR (bj.setCell ⟨F,q,none⟩ (hF (aL.getD B 0))) F [ovs v aL (q+1) 0,ovs v aL (q+1) 1,ovs v aL (q+1) 2]):=by
       have:=cn.set q (aL.getD B 0);rw[dg.o]at this;exact this
      have R2:V _:=bq.other cw.o q (hF (aL.getD B 0));clear bq cn bQ bn cp b7 bd aR aV bY ce cl aq dg;generalize aL.getD _ 0=y at cm R1 R2 bD;generalize ([ovs v _ q 0,ovs v _ q 1,ovs v _ q 2]:List _).getD q 0=z at ck;have bH:(0:Int)<=B:=xaa;have f1:B<(k:Int):=xaa;have a7:(0:Int)<=q:=xaa;have b3:(q:Int)<3:=xaa;cases b1:r6 v aL q
      ·exact xhq
      exact xhq
     obtain rfl:q=cnt v.op:=xaa;have tq:¬((cnt v.op:Int)<(cnt v.op:Int)):=xaa;cases b1:r6 v aL (cnt v.op)
     ·have R1:V (∃R Z cap,LJ w _ _ _ _ _ _ _ _ _ _ (jst _ x t _).1 (jst _ x t _).2 _ R Z cap):=⟨_,_,_,by
       rw[dd.o b1,cr.o.1,cr.o.2]
       exact bQ.o⟩
      go_wp2_with fail;refine yai HO.o ?_;rintro e J ⟨rfl,rfl⟩;clear HO;exact xih
     have aW:=bQ.o.g.c0;have aN:=bQ.o.g.c2;have c0:=bn.o.cell 0 xac;have c1:=bn.o.cell 1 xac;have c2:=bn.o.cell 2 xac;rw[show([ovs v _ _ 0,ovs v _ _ 1,ovs v _ _ 2]:List _).getD 0 0=ovs v _ _ 0 from rfl]at c0;rw[show([ovs v _ _ 0,ovs v _ _ 1,ovs v _ _ 2]:List _).getD 1 0=ovs v _ _ 1 from rfl]at c1;rw[show([ovs v _ _ 0,ovs v _ _ 1,ovs v _ _ 2]:List _).getD 2 0=ovs v _ _ 2 from rfl]at c2;have ef:=C4 b1;have bZ:∀n,-1<=ovs v _ (cnt v.op) n:=λn=>FT c9.o;have bm:At _ _ _ v:=⟨bd,aR,aV,bY,ce,cl⟩
     have d0:V (∀ay,Kept 0 0 wr ay->Calls prog 163 #[eX N Y d1 (some ⟨bx,0,none⟩) us.length cap ad aa d3,hF i,hF (ovs v aL (cnt v.op) 0),hF (ovs v aL (cnt v.op) 1),hF (ovs v aL (cnt v.op) 2)] ay λe bF=>∃(p:List Vl) (r:Int) (bS:Option Addr) (be:Nat) (bA:Option Nat),e=.returned (.tuple #[eX N Y d1 bS p.length be ad aa d3,hF r])/\(∀I o,I<ay.heap.size->I≠bx->bF.cell? ⟨I,o,none⟩=ay.cell? ⟨I,o,none⟩)/\(∀I o,I<ay.heap.size->I≠bx->bF.frozen? ⟨I,o,none⟩=ay.frozen? ⟨I,o,none⟩)/\ay.heap.size<=bF.heap.size/\V (p=us++(jmv vs i (jst vs x t j)).1/\r=(jmv vs i (jst vs x t j)).2)/\
       V (∀(l h':Nat) (cg:World),Kept l h' bF cg->wr.heap.size<=l->(h'<=ay.heap.size\/bF.heap.size<=l)->(bx<l\/h'<=bx)->LJ w (fF cg w.heap.size (.slice N Y d1) (.slice bS p.length be) (.slice ad aa d3)) a6 N Y d1 ad aa d3 ins outs p aL base bA bS be)):=λay al=>by
      refine(MB ay N ad Y d1 cap aa d3 base bx i us v _ _ _ (bQ.o.keep al).g.own (bQ.o.keep al).g.sz cU.o.1 cK (bm.keep (eI bQ.o.g.own (k:=bx) rfl).2 al yaa) (bZ 0) (bZ 1) (bZ 2) ef (λak=>by unfold ovs;rw[hG xaa]) (λak=>by unfold ovs;rw[hG xaa])).mono ?_
      rintro e bF ⟨bS,be,bA,rfl,fa,fc,ec⟩
      rw[<-U.o]at fa fc⊢
      have hn:∀I,I≠bx->¬((λ_=>False) I\/some bx=some I):=λI aT=>by rintro (c|c);exact c;cases c;exact aT rfl
      refine⟨_,_,_,_,bA,rfl,λI o aT aQ=>ec.chg.cell aT (hn I aQ),λI o aT aQ=>ec.chg.frozen aT (hn I aQ),ec.chg.size,⟨rfl,rfl⟩,λl h' cg cb ah ba b9=>?_⟩
      refine bQ.o.step al fa fc ec cb ah (λg aQ=>?_)
      rcases ec.row with c|⟨r,c,av⟩
      ·rw[c]at aQ;cases aQ;exact b9
      ·rw[c]at aQ;cases aQ
       have:=(eI fa (fc.trans c)).2
       omega
     have m:V (w.heap.size<wr.heap.size/\F<wr.heap.size/\w.heap.size≠bx/\F≠bx/\bx<wr.heap.size):=⟨bQ.o.g.lt,bn.o.lt,λc=>bQ.o.g.ne (by rw[c]),λc=>cw.o.r (by rw[c]),(eI bQ.o.g.own rfl).2⟩
     have eC:=bQ.o.g.free;clear ef bZ bm aR aV bY ce cl U;generalize ovs v _ _ 0=an at c0 d0 bn;generalize ovs v _ _ 1=S at c1 d0 bn;generalize ovs v _ _ 2=ar at c2 d0 bn;generalize e0:jmv _ i _=M at d0 cd;clear e0;obtain⟨ev,et⟩:=M;go_wp2_with fail;refine yai HO.o ?_;rintro e J ⟨rfl,rfl⟩;clear HO bd;go_upto_region 20 with fail;go_cut [17,18] (λe2 g1 bp=>∃(X:Nat) (p:List Vl) (r:Int) (bS:Option Addr) (be:Nat) (bA:Option Nat),e2=hD X/\g1=hF r/\V (p=us++ev/\r=et)/\V (RB bp X (.slice N Y d1) (.slice bS p.length be) (.slice ad aa d3)/\((∃u,bp.cell? ⟨w.heap.size,0,none⟩=some u)/\(∃u,bp.cell? ⟨w.heap.size,1,none⟩=some u)/\(∃u,bp.cell? ⟨w.heap.size,2,none⟩=some u))/\(∀o,bp.frozen? ⟨w.heap.size,o,none⟩=false))/\V (LJ w (fF bp w.heap.size (.slice N Y d1) (.slice bS p.length be) (.slice ad aa d3)) a6 N Y d1 ad aa d3 ins outs p aL base bA bS be))
     case first=>
      have el:w.heap.size≠J.heap.size:=hO m.o
      have gs:F≠J.heap.size:=hO m.o
      have a9:V (∀I o,I<J.heap.size->(J.alloc _).drew.cell? ⟨I,o,none⟩=J.cell? _):=λI o aT=>(ez 0 0 _ fE).cell aT xaa
      go_region_held3 (λW:World=>W.cell? ⟨w.heap.size,0,none⟩=some (.slice N Y d1)/\W.cell? ⟨w.heap.size,1,none⟩=some (hE bx us.length cap)/\W.cell? ⟨w.heap.size,2,none⟩=some (.slice ad aa d3)/\W.cell? ⟨F,0,none⟩=some (hF an)/\W.cell? ⟨F,1,none⟩=some (hF S)/\W.cell? ⟨F,2,none⟩=some (hF ar)) (first|go_keep|(simp only[mi _ _ _ _ _ _ _ el,mi _ _ _ _ _ _ _ gs];exact⟨br,a1,Z,a3,a4,cx⟩)) (first
       |(go_at_call 163;refine yai (d0.o _ ((ez 0 0 _ _).trans (eG _))) ?_;rintro e bF ⟨p,r,bS,be,bA,rfl,bW,cF,cP,cM,bc⟩;have br:=(bW _ 0 (by have:=m.o;simp;omega) m.o.2.2.1).trans ((a9.o _ 0 m.o.1).trans aW);have a1:=(bW _ 1 (by have:=m.o;simp;omega) m.o.2.2.1).trans ((a9.o _ 1 m.o.1).trans aq);have Z:=(bW _ 2 (by have:=m.o;simp;omega) m.o.2.2.1).trans ((a9.o _ 2 m.o.1).trans aN);have a3:=(bW F 0 (by have:=m.o;simp;omega) m.o.2.2.2.1).trans ((a9.o F 0 m.o.2.1).trans c0);have a4:=(bW F 1 (by have:=m.o;simp;omega) m.o.2.2.2.1).trans ((a9.o F 1 m.o.2.1).trans c1);have cx:=(bW F 2 (by have:=m.o;simp;omega) m.o.2.2.2.1).trans ((a9.o F 2 m.o.2.1).trans c2);have cS:V _:=cF;have bR:=bW J.heap.size 0 xac (hO m.o);have aS:=bW J.heap.size 1 xac (hO m.o);have bb:=bW J.heap.size 2 xac (hO m.o);have ex:=cF J.heap.size 0 xac (hO m.o);have ey:=cF J.heap.size 1 xac (hO m.o);have eA:=cF J.heap.size 2 xac (hO m.o);have ek:V _:=cP;clear bW cF cP)
       |(go_at_call 163;refine yai (d0.o _ (eG _)) ?_;rintro e bF ⟨p,r,bS,be,bA,rfl,bW,cF,cP,cM,bc⟩;have br:=(bW _ 0 m.o.1 m.o.2.2.1).trans aW;have a1:=(bW _ 1 m.o.1 m.o.2.2.1).trans aq;have Z:=(bW _ 2 m.o.1 m.o.2.2.1).trans aN;have a3:=(bW F 0 m.o.2.1 m.o.2.2.2.1).trans c0;have a4:=(bW F 1 m.o.2.1 m.o.2.2.2.1).trans c1;have cx:=(bW F 2 m.o.2.1 m.o.2.2.2.1).trans c2;have cS:V _:=cF;have cl:w.heap.size≠bF.heap.size:=(by have:=m.o;have:J.heap.size<=bF.heap.size:=cP;omega);have cV:F≠bF.heap.size:=(by have:=m.o;have:J.heap.size<=bF.heap.size:=cP;omega);have ek:V _:=cP;clear bW cF cP))
      ·have eb:J.heap.size<=bF.heap.size:=ek.o;have bE:=ez 0 0 bF (.cells #[.slice N Y d1,.slice bS p.length be,.slice ad aa d3] 26);have cQ:w.heap.size<bF.heap.size:=by have:=m.o;omega
       have R2:V (RB (bF.alloc (.cells #[.slice N Y d1,.slice bS p.length be,.slice ad aa d3] 26)) bF.heap.size (.slice N Y d1) (.slice bS p.length be) (.slice ad aa d3)/\((∃u,(bF.alloc _).cell? _=some u)/\(∃u,(bF.alloc _).cell? _=some u)/\(∃u,(bF.alloc _).cell? _=some u))/\(∀o,(bF.alloc _).frozen? _=false)):=
        ⟨⟨by simp,by simp,by simp,by simp,by simp,by simp,by simp⟩,⟨⟨_,(bE.cell cQ xaa).trans br⟩,⟨_,(bE.cell cQ xaa).trans a1⟩,⟨_,(bE.cell cQ xaa).trans Z⟩⟩,λo=>(bE.frozen cQ xaa).trans ((cS.o _ o m.o.1 m.o.2.2.1).trans (eC o))⟩
       have R3:V _:=bc.o _ bF.heap.size _ (ez _ _ _ (.cells #[.slice N Y d1,.slice bS p.length be,.slice ad aa d3] 26)) eb yab (.inl (hO m.o));exact xkv
      have eb:=yan (ez 0 0 _ _).size ek.o;have K:=fh bF J.heap.size (.slice N Y d1) (.slice bS p.length be) (.slice ad aa d3);have cQ:w.heap.size<bF.heap.size:=hO m.o
      have gw:J.heap.size<bF.heap.size:=yaj xac ek.o;have fG:bF.cell? _=some (.slice none 0 0):=bR.trans xac;have fM:bF.cell? _=some (.slice none 0 0):=aS.trans xac;have fP:bF.cell? _=some (.slice none 0 0):=bb.trans xac;obtain⟨bd,aR,aV⟩:=fg _ _ _ _ _ fG fM fP (.slice N Y d1) (.slice bS p.length be) (.slice ad aa d3);have er:∀o,bF.frozen? _=false:=λo=>(cS.o J.heap.size o xac (hO m.o)).trans xac;have bN:∀o,_:=λo=>(cS.o _ o (by have:=m.o;simp;omega) m.o.2.2.1).trans (((ez 0 0 _ _).frozen m.o.1 xaa).trans (eC o))
      have R2:V (RB _ _ _ _ _/\((∃u,(((bF.setCell _ (.slice N Y d1)).setCell _ (.slice bS p.length be)).setCell _ (.slice ad aa d3)).cell? _=some u)/\(∃u,(((bF.setCell _ (.slice N Y d1)).setCell _ (.slice bS p.length be)).setCell _ (.slice ad aa d3)).cell? _=some u)/\(∃u,(((bF.setCell _ (.slice N Y d1)).setCell _ (.slice bS p.length be)).setCell _ (.slice ad aa d3)).cell? _=some u))/\(∀o,(((bF.setCell ⟨J.heap.size,0,none⟩ (.slice N Y d1)).setCell ⟨J.heap.size,1,none⟩ (.slice bS p.length be)).setCell ⟨J.heap.size,2,none⟩ (.slice ad aa d3)).frozen? ⟨w.heap.size,o,none⟩=false)):=
       ⟨⟨yaj gw K.size,bd,aR,aV,by simp[er 0],by simp[er 1],by simp[er 2]⟩,⟨⟨_,(mi _ _ _ _ _ _ _ el).trans br⟩,⟨_,(mi _ _ _ _ _ _ _ el).trans a1⟩,⟨_,(mi _ _ _ _ _ _ _ el).trans Z⟩⟩,λo=>by simp[bN o]⟩
      have R3:V _:=bc.o _ _ _ K yad (.inl xac) (.inl m.o.2.2.2.2);clear K fG fM fP er bN bd aR aV bR aS bb ex ey eA;exact xkv
     case rest=>
      clear aW aq aN c0 c1 c2 d0 bQ bn eC;obtain⟨X,p,r,bS,be,bA,rfl,rfl,cM,bK,bc⟩:=hcut;obtain⟨⟨_,bf,aO,aX,bI,bL,bM⟩,⟨⟨_,bi⟩,⟨_,a5⟩,⟨_,p2⟩⟩,bN⟩:=bK.o;have gR:=bN 0;have gT:=bN 1;have g0:=bN 2;clear bN bK;go_upto_region 22 with fail;clear bf aO aX bI bL bM bi a5 p2 gR gT g0;unfold fF at bc;generalize ((wc.setCell _ _).setCell ⟨_,1,_⟩ _).setCell _ _=c8 at bc⊢;have cm:=bc.o.m.cell i (hO cU.o);have e6:=bc.o.m.free i
      have R1:V (∃R Z cap,LJ w (c8.setCell _ (.int _ r)) _ _ _ _ _ _ _ _ _ (jst _ x t _).1 (jst _ x t _).2 _ R Z cap):=⟨_,_,_,by
       have:=bc.o.set i r
       rw[cd.o]
       rw[cM.o.2]at this⊢
       rw[cM.o.1]at this
       exact this⟩
      clear bc cM;generalize aL.getD i 0=z at cm;exact xih
   obtain rfl:j=s-x:=xaa;have ca:¬((x+1+(s-x):Nat)<=(s:Int)):=xaa;have ea:s<(jst vs x t (s-x)).2.length:=by rw[wC,b0.o];exact ae
   have cs:=aj.m.cell s ea;have cC:=xn vs x t (s-x) s;have H:V (jZ _ s x t=if (jst _ x t _).2.getD s 0=-1 then ((jst _ x t _).1++[eK 1 _ 0 0 0],(((jst _ x t _).1.length:Nat):Int))else ((jst _ x t _).1,(jst vs x t _).2.getD s 0)):=rfl;rw[ei.o]at H
   have ch:s<x->(jst _ x t (s-x)).2.getD s 0=-1:=λak=>by
    rw[show s-x=0 by omega]
    exact FX _ x t s xaa (hR b0.o ae)
   have ah:∀q,q<vs.length->_:=λq ao=>iq (List.all_eq_true.1 cH.o q (List.mem_range.2 (hO b0.o)));obtain⟨aS,_,_⟩:=sQ _ x t ah (mZ _ (λq ao=>hO (ah q ao))) cf.o (s-x) (hO b0.o);have b4:(jst vs x t (s-x)).1.length<=800000:=hO b0.o
   have HL:V _:=aj;clear a2 aj fz ah aS ea aB b9;generalize (jst _ x t _).1=us at HL H b4;generalize (jst _ x t _).2=aL at HL H cs cC ch;generalize aL.getD s 0=mm at cs cC H ch;have aW:=HL.o.g.c0;have aq:=HL.o.g.c1;have aN:=HL.o.g.c2;obtain⟨_,bf,aO,aX,bI,bL,bM⟩:=HL.o.b;have e9:(0:Int)<=s:=xaa;have ff:(s:Int)<k:=xaa;by_cases a2:x<=s/\0<=mm
   ·have C:V (jZ vs s x t=(us,mm)):=by
     show _=_;rw[H.o,hG xaa]
    have an:((x:Int)<=s):=xaa;have S:=a2.2;obtain⟨bd,aR,aV⟩:=fg _ _ _ _ _ bf aO aX (.slice N Y d1) (hE bx us.length cap) (.slice ad aa d3);have gv:w.heap.size≠w.heap.size+1:=xaa;have fv:a6≠w.heap.size+1:=hQ HL.o.hb HL.o.dM
    have ho:=Ne.symm fv;have cO:V (∀X bw cj:Value,(((wr.setCell _ X).setCell _ bw).setCell _ cj).drew.cell? _=some _):=λX bw cj=>(mi _ _ _ _ X bw cj fv).trans cs;exact qhd
   have C:V (jZ vs s x t=(us++[eK 1 G 0 0 0],(us.length:Int))):=by
    show _=_
    rw[H.o,hI (by
     by_cases ak:s<x
     ·exact ch ak
     ·omega)]
   have e5:(¬(x<=(s:Int)))\/((x:Int)<=s/\¬(0<=mm)):=xaa;clear H ch bf aO aX bI bL bM a2 cC;rcases e5 with bv|⟨bv,c6⟩
   all_goals
    go_upto_region 25 with fail
    clear cs
    go_cut [] (λbp=>∃aA cap',V (LJ w bp a6 N Y d1 ad aa d3 ins outs (us++[eK 1 G 0 0 0]) aL base (some aA) (some ⟨aA,0,none⟩) cap'))
    case first=>
     go_region_with (first
      |(go_at_call 37;refine yai (LJ.call HL.o ((eG _).trans am) _ xaa) ?_;rintro e ag ⟨aA,cap',rfl,⟨_,bo⟩,⟨_,az⟩,⟨_,aZ⟩,ai,aD⟩;have bl:=ai 0;have bG:=ai 1;have bP:=ai 2;clear ai)
      |(go_at_call 57;refine yai (oW _ _) ?_;rintro e aG ⟨rfl,am⟩;have bi:=(LJ.keep HL.o ((eG _).trans am)).g.c0;have a5:=(LJ.keep HL.o ((eG _).trans am)).g.c1;have p2:=(LJ.keep HL.o ((eG _).trans am)).g.c2))
     all_goals (go_wp2_with fail;go_meet;exact⟨_,_,aD⟩)
    case rest=>
     obtain⟨aA,cap',aD⟩:=hcut
     have ci:(us++[eK 1 G 0 0 0]).length=us.length+1:=by simp
     generalize aI:us++[eK 1 _ 0 0 0]=p at aD C ci
     clear aW aq aN aI HL
     have aW:=aD.o.g.c0
     have aq:=aD.o.g.c1
     have aN:=aD.o.g.c2
     obtain⟨_,bf,aO,aX,bI,bL,bM⟩:=aD.o.b
     have aF:V _:=λW=>je W N (some ⟨aA,0,none⟩) ad Y d1 p.length cap' aa d3 xaa
     rw[show(p.length:Int)-1=(us.length:Nat) by omega]at aF
     clear ci
     go_wp2_with fail
     go_region_with (first
      |(go_at_call 40;refine yai (aF.o _) ?_;rintro e a8 ⟨rfl,aJ⟩;clear bf aO aX bI bL bM;have a7:=(aD.o.keep ((eG _).trans aJ)).g.c0;have aK:=(aD.o.keep ((eG _).trans aJ)).g.c1;have aP:=(aD.o.keep ((eG _).trans aJ)).g.c2;obtain⟨_,bf,aO,aX,bI,bL,bM⟩:=(aD.o.keep ((eG _).trans aJ)).b))
     all_goals
      have ej:V _:=aD.o.a4
      have R1:V _:=aD.o.fin ((eG _).trans aJ)
      obtain⟨bd,aR,aV⟩:=fg _ _ _ _ _ bf aO aX (.slice N Y d1) (hE aA p.length cap') (.slice ad aa d3)
      go_wp2_with fail
      refine yay (v:=.tuple #[eX N Y d1 (some ⟨aA,0,none⟩) p.length cap' ad aa d3,hF us.length]) (by simp[results,results158,go_sem,bd,aR,aV]) rfl ⟨?_,R1.o.2⟩
      rw[C.o]
      exact⟨_,_,_,_,_,_,rfl,R1.o.1.1,R1.o.1.2.1,R1.o.1.2.2,ej.o⟩
end
section
open Go.RowKit Flt Go.Maps
attribute[local go_sem] eF eE eD
theorem aN.qbc(h:Zp:=by
 have bQ:((w.alloc (eZ N Y c1 aD ab c2 ad aa c3)).alloc fE).heap.size=w.heap.size+1+1:=by simp
 have aw:=q7 ab ((w.alloc (eZ N Y c1 aD ab c2 ad aa c3)).alloc fE) xaa;have bh:=IR.made ((w.alloc (eZ N Y c1 aD ab c2 ad aa c3)).alloc fE) ab;have an:=ez 0 0 ((w.alloc (eZ N Y c1 aD ab c2 ad aa c3)).alloc fE) (.cells (madeCells #[hF 0] ab) 3);rw[bQ]at aw bh;rw[bz]at C;have aH:V _:=(aT.keep am).keep an;have HR:V _:=C.keep an;have aQ:V _:=hP.keep ((H.trans am).trans an);have HK:V _:=(H.trans am).trans an;have ba:V _:=bh;exact qhr):Zp:=h
theorem aN.qhs(h:Zp:=by
 have au:V _:=aU;have bU:V _:=bn;have bg:V _:=al;have cG:V _:=bn 0 _ _ ai ((H.trans am).trans an).chg;have ap:V (w.heap.size+3<=(((w.alloc (eZ N Y c1 aD ab c2 ad aa c3)).alloc fE).alloc (.cells (madeCells #[hF 0] ab) 3)).heap.size):=by show _<=_;simp
 have H2:V _:=U;have H3:V _:=h3;clear U h3 hP b6 ci cz ct aM ax cp cA aU bn al ai bh C bz bQ H am an;obtain⟨_,aW,aq,aN⟩:=aT;obtain⟨_,a7,aK,aP⟩:=aH.o;have bv:=(aH.o).q1;go_enter func119,ntmps119;go_wp2_with fail;clear a7 aK aP aW aq aN aw bv;generalize ((w.alloc _).alloc _).alloc _=aG at aH HR aQ HK ba cG ap⊢;go_loopw [15] (λx W=>∃i:Nat,i<=ab/\x=hF i/\V (VA W aC ab ((fA p vs i).1++vs.drop i))/\V (IR W (w.heap.size+1+1) ((fA p vs i).2++List.replicate (ab-i) 0))/\V (l i W)/\V (Chg (λb=>b=aC\/b=w.heap.size+1+1\/S b) aG W)) (λx _=>ab-(intOf x).toNat)
 case atStart=>exact⟨0,Nat.zero_le _,rfl,by show VA _ _ _ _;simpa[fA] using aQ.o.v,by show IR _ _ _;rw[Nat.sub_zero];exact ba.o,cG,Chg.refl _ _⟩
 case round=>
  obtain⟨i,hi,rfl,a2,F,bB,ar⟩:=hrel;clear cG ba;by_cases aB:i<ab
  ·obtain rfl:=H2.o xaa;have t:=HE.o i xaa;have E1:=HE.o (i+1) aB;have cV:=ar.o.size;have bJ:=ap.o;have bm:=a2.o.at_ i aB;have bp:((fA p _ i).1++vs.drop i).getD i _=vs.getD i _:=NO t.l1;rw[bp]at bm;have cJ:V _:=bm;have cn:=i8 (b1.o i aB);have cg:aC≠w.heap.size:=by have:=bk.o;omega
   have G:aC≠wr.heap.size:=hO bk.o
   have cO:V _:=G0.keepC aH.o ar.o (by rintro (c|c|c)<;>first|omega|(have:=(au.o _ c).1;omega))
   have aA:V (∀W,Kept 0 0 _ W->_):=λW bS=>by
    have:=Lo W (vs.getD i hK) _ _ (some ⟨w.heap.size+1+1,0,none⟩) ab ab _ (IR.isAt (IR.keep F.o bS yaa) (by simp[t.l2];omega)) (λo h=>hO (cn o h))
    rw[IU (λo h=>by have:=cn o h;rw[t.l2];omega)]at this
    exact this
   have a6:V (∀W,VA W _ _ _->VA _ aC _ ((fA p _ (i+1)).1++vs.drop _)):=λW h=>by
    have:=h.step i aB (rnm (fA p vs i).2 (vs.getD i hK))
    rw[B4 t.l1 (hR HL.o.1 aB)]at this
    exact this
   have ae:∃r:Nat,gQ p (fA p vs i).1 (rnm (fA p vs i).2 (vs.getD i hK)) i=r/\r<=i/\(fA p vs (i+1)).2.getD r 0=r:=by
    have aj:(fA p vs (i+1)).2.getD i 0=gQ p (fA p vs i).1 (rnm (fA p vs i).2 (vs.getD i hK)) i:=by
     have:=mf (fA p vs i).2 (gQ p (fA p vs i).1 (rnm (fA p vs i).2 (vs.getD i hK)) i);rw[t.l2]at this;exact this
    have B:=E1.to0 i yae;have U:=E1.root i yae;rw[aj]at B U;exact⟨_,(Int.toNat_of_nonneg B.1).symm,by omega,by rw[U];exact(Int.toNat_of_nonneg B.1).symm⟩
   obtain⟨r,av,br,I⟩:=ae;have aL:V _:=NP (bg.o i) aB av;have n:V ((fA p _ (i+1)).2=(fA p _ i).2++[(r:Int)]/\(fA p _ i).2.length=i):=⟨by rw[<-av];rfl,t.l2⟩
   have bl:V _:=λh=>by
    have:=I
    rw[n.o.1,mW _ _ (hR t.l2 h)]at this
    exact this
   clear t E1 bp cn av I;generalize vs.getD i _=v at bm cJ aA a6 aL;generalize bC:rnm _ v=nv at aA a6;clear bC;obtain⟨bd,aR,aV,bY,ce,cl⟩:=bm;obtain⟨_,bi,a5,p2⟩:=cO.o;go_wp2_with fail;clear bd aR aV bY ce cl bi a5 p2;have bE:=ez 0 0 wr (eM v.op v.len v.a v.b v.c v.k);have q:V _:=bE;have bu:V _:=me wr v;have cu:V _:=cO.o.keep bE;have aF:V _:=a2.o.keep bE yaa;have cc:V (wr.heap.size<(wr.alloc (eM v.op v.len v.a v.b v.c v.k)).heap.size):=by show _<_;simp
   obtain⟨_,bi,a5,p2⟩:=cu.o;obtain⟨bI,bL,bM,cj,cx,cM⟩:=bu.o;simp only[Nat.zero_add]at bL bM cj cx cM;clear bE;generalize wr.alloc _=ag at q bu cu aF cc bi a5 p2 bI bL bM cj cx cM⊢
   go_region_held3 (λW:World=>W.cell? ⟨w.heap.size,1,none⟩=some (hE aC ab c2)/\W.cell? ⟨wr.heap.size,0,none⟩=some (hF v.op)/\W.cell? ⟨wr.heap.size,1,none⟩=some (hF v.len)/\W.cell? ⟨wr.heap.size,2,none⟩=some (hF v.a)/\W.cell? ⟨wr.heap.size,3,none⟩=some (hF v.b)/\W.cell? ⟨wr.heap.size,4,none⟩=some (hF v.c)/\W.cell? ⟨wr.heap.size,5,none⟩=some (.float .f64 v.k)) (first|go_keep|(exact⟨(lE a8 aC (i*6) _ _ nv (.inl cg)).trans aO,(lE a8 aC (i*6) _ _ nv (.inl G)).trans aW,(lE a8 aC (i*6) _ _ nv (.inl G)).trans aq,(lE a8 aC (i*6) _ _ nv (.inl G)).trans aN,(lE a8 aC (i*6) _ _ nv (.inl G)).trans bA,(lE a8 aC (i*6) _ _ nv (.inl G)).trans cw,(lE a8 aC (i*6) _ _ nv (.inl G)).trans cC⟩))
    ((go_at_call 117;refine yai (aA.o _ (q.o.trans (eL 0 0 _ 1))) ?_;rintro e a8 ⟨rfl,aJ⟩;have s:=Kept.trans (eL 0 0 _ 1) aJ;obtain⟨_,bf,aO,aX⟩:=G0.keep cu.o s;obtain⟨aW,aq,aN,bA,cw,cC⟩:=At.keep bu.o cc.o s yaa;simp only[Nat.zero_add]at aq aN bA cw cC;obtain⟨u0,u1,u2,u3,u4,u5⟩:=At.keep cJ.o a2.o.lt (q.o.trans s) yaa;have ee:=(VA.keep aF.o s yaa).free))
   have f:=q.o.trans s;have K:Kept _ _ _ ((((((a8.setCell _ _).setCell _ _).setCell _ _).setCell _ _).setCell _ _).setCell _ _):=oU _ aC (i*6) nv;have bj:V (VA ((((((a8.setCell _ _).setCell _ _).setCell _ _).setCell _ _).setCell _ _).setCell _ _) _ _ _):=a6.o _ (VA.keep aF.o s yaa);have R:V (IR _ _ _):=(IR.keep F.o f yaa).keep K (hO bk.o);have bw:V _:=bU.o i _ _ bB.o (Chg.trans f.chg (K.chg1 (.inl rfl)));have cF:V _:=Chg.trans ar.o (Chg.trans f.chg (K.chg1 (.inl rfl)));have cH:V _:=G0.keepT (G0.keep cu.o s) K (hO bk.o);generalize ((((((a8.setCell _ _).setCell _ _).setCell _ _).setCell _ _).setCell _ _).setCell _ _)=cf at bj R bw cF cH⊢;clear f K aJ s bf aO aX aW aq aN bA cw cC u0 u1 u2 u3 u4 u5 ee bi a5 p2 bI bL bM cj cx cM q bu cu aF cc cJ aA a6 a2 F bB ar;obtain⟨_,bi,a5,p2⟩:=cH.o;have cr:=R.o.cell i (by rw[yak,List.length_replicate,n.o.2];omega);have ds:=R.o.free i;generalize ((fA p _ i).2++List.replicate _ 0).getD i 0=d0 at cr;go_wp2_with fail;have g:=eU (lo:=w.heap.size+1+1) (hi:=w.heap.size+1+1+1) cf ⟨_,i,none⟩ (hF i) yac;have bc:V _:=IR.set R.o i i;have bb:V _:=bU.o i _ _ bw.o (g.chg1 (.inr xaa));have aS:V _:=bj.o.keep g (hO bk.o);have aY:V _:=Chg.trans cF.o (g.chg1 (.inr (.inl rfl)));generalize cf.setCell _ _=b4 at bc bb aS aY⊢;clear g cr ds bi a5 p2 cH bj R bw cF;refine yai (aL.o _ bb.o aS.o) ?_;rintro e be ⟨rfl,X,bq⟩;have P:V _:=IR.keepC bc.o X (λc=>hO ((au.o _ c).1));have ah:V _:=VA.keepC aS.o X (λc=>(au.o _ c).2.2.1 rfl);have a9:V _:=Chg.trans aY.o (X.mono λb _ c=>.inr (.inr c));have u:V _:=bq;have fT:=IR.cell P.o r (by rw[List.length_set,yak,List.length_replicate,n.o.2];omega);rw[Pk n.o.2 aB br bl.o]at fT;have cr:=IR.cell P.o i (by rw[List.length_set,yak,List.length_replicate,n.o.2];omega);have ds:=IR.free P.o i;generalize (((fA p _ i).2++List.replicate _ 0).set i _).getD i 0=d0 at cr;have g:=eU (lo:=w.heap.size+1+1) (hi:=w.heap.size+1+1+1) be ⟨_,i,none⟩ (hF r) yac;have R1:V _:=ah.o.keep g (hO bk.o);have R2:V _:=IR.set P.o i r;rw[NQ n.o.2 aB,<-n.o.1]at R2;have R3:V _:=bU.o _ _ _ u.o (g.chg1 (.inr xaa));have aI:V _:=Chg.trans a9.o (g.chg1 (.inr (.inl rfl)));have bx:r<ab:=xaa;clear g X bq bc bb aS aY P ah a9 u aL n bl;go_wp2;go_roundw;exact⟨i+1,by omega,by go_num,R1,R2,R3,aI⟩;simp[intOf];omega
  obtain rfl:i=ab:=xaa;have cV:=ar.o.size;have bJ:=ap.o;have t:=HE.o i yad;have cy:∀b,w.heap.size<=b->¬S b:=λb hb c=>hO ((au.o _ c).1)
  have O:V (VA wr aC i (fA p vs i).1):=by
   have:=a2.o;exact xji
  have P:V (IS wr (w.heap.size+1+1) (w.heap.size+1+1+1) (some ⟨w.heap.size+1+1,0,none⟩) i (fA p vs i).2):=by
   have:=F.o;rw[Nat.sub_self,List.replicate_zero,List.append_nil]at this;exact this.isAt t.l2
  have Q:V _:=G0.keepC aH.o ar.o (by rintro (c|c|c)<;>first|(have:=bk.o;omega)|exact cy _ xaa c);have bW:V _:=RB.keepC HR.o ar.o (by rintro (c|c|c)<;>first|(have:=bk.o;omega)|exact cy _ xaa c);have ak:V _:=IBk.keepC aQ.o.i ar.o (by rintro (c|c|c)<;>first|(have:=bk.o;omega)|exact(au.o _ c).2.1 rfl);have Z:V _:=IBk.keepC aQ.o.o ar.o (by rintro (c|c|c)<;>first|(have:=bk.o;omega)|exact(au.o _ c).2.2.2 rfl);have a0:V _:=H8 _ N aD _ Y c1 i c2 _ _ c3 _ _ _ i i _ _ Z.o P.o (hO bk.o) c7.o xaa H3.o;have a9:V (Chg (λb=>b=aC\/b=ay\/S b) w _):=Chg.new HK.o.chg ar.o (λb hb c=>by rcases c with c|c|c<;>first|exact .inl c|exact .inr (.inr c)|omega);clear t a2 F bB ar HR aH;obtain⟨_,bi,a5,p2⟩:=Q.o;go_wp2_with fail;clear bi a5 p2;refine yai a0.o ?_;rintro e ag ⟨rfl,(af:V _),an⟩;have y:V _:=G0.keepT Q.o an (hO bk.o);have cB:V _:=O.o.keep an (hO bk.o);have ao:V _:=ak.o.keep an (hO bk.o);have bN:V _:=Chg.trans a9.o (an.chg1 (.inr (.inl rfl)));have bP:V _:=RB.keepC bW.o (an.chg1 rfl) (hO bk.o);clear a0 Q O P ak Z a9;obtain⟨_,bi,a5,p2⟩:=y.o;obtain⟨_,bo,az,aZ,bH,f1,f2⟩:=bP.o;go_wp2_with fail;obtain⟨bd,aR,aV⟩:=fg _ _ _ _ _ bo az aZ (.slice N Y c1) (.slice aD i c2) (.slice ad aa c3);have K:=fh ag (w.heap.size+1) (.slice N Y c1) (.slice aD i c2) (.slice ad aa c3);refine yay (v:=eX N Y c1 aD i c2 ad aa c3) (by simp[results,results119,go_sem,bd,aR,aV]) rfl ⟨rfl,⟨?_,?_,?_,?_,?_,?_⟩,?_⟩
  ·exact ao.o.keep K (hO bk.o)
  ·have:=cB.o.keep K (hO bk.o);unfold eqM;rw[HL.o.1];exact this
  ·have:=af.o.keep K (hO bk.o);unfold eqM;rw[HL.o.1];exact this
  ·exact bk.o.2.2.2.1
  ·exact bk.o.2.2.2.2.1
  ·exact bk.o.2.2.2.2.2
  exact Chg.new bN.o (K.chg1 rfl) (λb hb c=>by omega)):Zp:=h
open aN in
theorem P4(w N aD ad bG Y c1 aC ab c2 ay aa c3 m p ins vs outs S)(l:Nat->World->Prop)(hP:PG w bG aC ay Y ab aa ins vs outs)(b6:okG ins vs outs=true)
  (aU:∀b,S b->b<w.heap.size/\b≠bG/\b≠aC/\b≠ay) (ai:l 0 w) (bn:∀i W W',l i W->Chg (λb=>b=aC\/w.heap.size<=b) W W'->l i W')
  (al:∀i W,i<ab->l i W->VA W aC ab ((fA p vs (i+1)).1++vs.drop (i+1))->Calls prog 120 #[hE aC ab c2,hF (i:Nat),hD m] W λe J=>e=.returned (hF (gQ p (fA p vs i).1 (rnm (fA p vs i).2 (vs.getD i hK)) i))/\Chg S W J/\l (i+1) J) (U:0<ab->aD=some ⟨aC,0,none⟩) (h3:0<aa->ad=some ⟨ay,0,none⟩):
  Calls prog 119 #[eX N Y c1 aD ab c2 ad aa c3,.func (.func 120) #[] #[hD m]] w λe J=>
   e=.returned (eX N Y c1 aD ab c2 ad aa c3)/\PG J bG aC ay Y ab aa ins (eqM p vs outs).1 (eqM p vs outs).2/\Chg (λb=>b=aC\/b=ay\/S b) w J:=by
 obtain⟨⟨ci,cz,ct⟩,_,aM,ax,_⟩:=gM b6;have cp:=hP.v.len;have cA:=hP.o.len;have b5:ab<=2000:=xaa;have cU:aa<=50:=xaa;have HE:V (∀i,i<=ab->_):=λi hi=>lO _ _ p i (λj hj=>aM j xaa);have b1:V (∀j,j<ab->_):=λj hj=>aM j xaa;have c7:V (∀o∈outs,0<=o/\o<ab):=λo h=>hO (ax o h)
 have HL:V (vs.length=ab/\outs.length=aa):=⟨cp,cA⟩
 exact qbb
theorem aO.qbc(h:Zp:=by
 rw[bz]at C;generalize cf:(w.alloc (eZ N Y c1 aD ab c2 ad aa c3)).alloc fE=ag at am C;have br:ag.heap.size=w.heap.size+1+1:=by rw[<-cf];simp
 have an:=ez 0 0 ag (.map #[] 0);have aJ:=ez 0 0 (ag.alloc (.map #[] 0)) (.cells #[.map (some ag.heap.size)] 141);have y:=World.ownsMap_made ag prog 144 (plainElem (H:=Unit) prog 3);have bE:(ag.alloc (.map #[] 0)).heap.size=ag.heap.size+1:=by simp
 have o:((ag.alloc (.map #[] 0)).alloc (.cells #[.map (some ag.heap.size)] 141)).heap.size=ag.heap.size+2:=by simp
 have f:CI ((ag.alloc (.map #[] 0)).alloc (.cells #[.map (some ag.heap.size)] 141)) (ag.heap.size+1) ag.heap.size 0 (fA 1 vs 0).1:=
  ⟨by omega,by rw[<-bE];simp,y.alloc _⟩
 have aH:V _:=((aT.keep am).keep an).keep aJ;have HR:V _:=(C.keep an).keep aJ;have HK:V _:=(H.trans am).trans (an.trans aJ);have bk:V (bG<w.heap.size/\aC<w.heap.size/\ay<w.heap.size):=⟨hP.i.lt,hP.v.lt,hP.o.lt⟩
 have cp:=hP.v.len;obtain⟨⟨ci,cz,_⟩,_,aM,_,_⟩:=gM b6
 have bp:V _:=P4 ((ag.alloc (.map #[] 0)).alloc (.cells #[.map (some ag.heap.size)] 141)) N aD ad bG Y c1 aC ab c2 ay aa c3 (ag.heap.size+1) 1 ins vs outs (λb=>b=ag.heap.size) (λi W=>CI W (ag.heap.size+1) ag.heap.size i (fA 1 vs i).1) (hP.keep ((H.trans am).trans (an.trans aJ))) b6
  (λb c=>by have:=hP.i.lt;have:=hP.v.lt;have:=hP.o.lt;omega) f
  (λi W W' h c=>h.keepC c (hO hP.v.lt) (hO hP.v.lt)) (λi W hi bn p=>by
  have E:=lO ins vs 1 i (λj hj=>aM j xaa)
  have E1:=lO ins vs 1 (i+1) (λj hj=>aM j xaa)
  have cd:=mN s 1 (i+1)
  have l:∀j,j<i+1->_:=λj hj=>NS (E1.ok j hj) xaa ci (λq ao=>qp (E1.ok q xaa)) (cd.at_ j)
  have cc:∀j,j<i->(fA 1 vs (i+1)).1.getD j hK=(fA 1 vs i).1.getD j hK:=λj hj=>iU _ _ (by rw[E.l1];exact hj)
  have aj:(fA 1 vs (i+1)).1.getD i hK=rnm (fA 1 vs i).2 (vs.getD i hK):=by
   have:=iM (fA 1 vs i).1 (rnm (fA 1 vs i).2 (vs.getD i hK))
   rw[E.l1]at this
   exact this
  rw[DQ]at p
  refine(PU W aC ab c2 i (ag.heap.size+1) ag.heap.size _ _ _ p E.l1 hi xaa bn xaa (λj hj=>by rw[E.l1]at hj;rw[<-cc j hj];exact l j xaa) (by rw[<-aj];exact l i xaa)).mono ?_
  intro e J h
  refine⟨?_,h.2.1,h.2.2⟩
  rw[h.1]
  unfold gQ
  rw[hI rfl]) U.pos h3
 have H2:V _:=U;have cq:V _:=s;rw[br]at aH HR HK bp;clear U h3 hP b6 aM cp ci cz H am an aJ C bz br bE o s y f;have a6:=@run_makeMap prog;obtain⟨_,bi,a5,p2⟩:=aH.o;subst cf;go_enter func75,ntmps75;go_wp2_with fail;clear bi a5 p2 aT a6;generalize (((w.alloc (eZ N Y c1 aD ab c2 ad aa c3)).alloc fE).alloc (.map #[] 0)).alloc (.cells #[.map (some (w.heap.size+1+1))] 141)=aG at aH HR HK bp⊢;refine yai bp.o ?_;rintro e ag ⟨rfl,(u:V _),(bv:V _)⟩;have bP:V _:=RB.keepC HR.o bv.o (by rintro (c|c|c)<;>(have:=bk.o;omega));clear bp;obtain⟨_,bo,az,aZ,bH,f1,f2⟩:=bP.o;go_wp2_with fail;obtain⟨bd,aR,aV⟩:=fg ag (w.heap.size+1) _ _ _ bo az aZ (.slice N Y c1) (.slice aD ab c2) (.slice ad aa c3);have K:=fh ag (w.heap.size+1) (.slice N Y c1) (.slice aD ab c2) (.slice ad aa c3);refine yay (v:=eX N Y c1 aD ab c2 ad aa c3) (by simp[results,results75,go_sem,bd,aR,aV]) rfl ⟨aD,aC,ab,c2,(eqM 1 vs outs).1,rfl,H2.o,⟨?_,?_,?_,u.o.d12,u.o.d13,u.o.d23⟩,Lk.refl _,?_,?_,.inl rfl⟩
 ·exact u.o.i.keep K (hO bk.o)
 ·exact u.o.v.keep K (hO bk.o)
 ·exact u.o.o.keep K (hO bk.o)
 ·exact mN cq.o 1 _
 refine Chg.new (Chg.new HK.o.chg bv.o (λb hb c=>?_)) (K.chg1 (S:=λb=>b=w.heap.size+1) rfl) (λb hb c=>by omega);rcases c with c|c|c
 ·exact .inl c
 ·exact .inr c
 omega):Zp:=h
open aO in
theorem K0(w N aD ad bG Y c1 aC ab c2 ay aa c3 ins vs outs)(hP:PG w bG aC ay Y ab aa ins vs outs)(b6:okG ins vs outs=true)(s:Kb vs)(U:Sl aD ab c2 aC)(h3:0<aa->ad=some ⟨ay,0,none⟩):
  Calls prog 75 #[eX N Y c1 aD ab c2 ad aa c3] w λe J=>POk w N ad bG Y c1 aC ay aa c3 ins (eqM 1 vs outs) e J:=by
 exact qbb
end
section
open Go.RowKit Flt
attribute[local go_sem] eF eE eD lT
theorem bU.qcc(h:Zp:=by
 have bw:V _:=bB;have HK:V _:=ar;exact qfo):Zp:=h
theorem bU.qfp(h:Zp:=by
 have s:V (Kb _/\okG _ _ _=true):=⟨aB,h⟩
 clear ar h B U h3 bB aF H i aB ci cz ct;obtain⟨_,bi,a5,p2⟩:=aH.o;go_enter func25,ntmps25;go_wp2_with fail;clear bi a5 p2;generalize (w.alloc _).alloc _=aG at aH bw HK bu a2 bk⊢;refine yai bu.o ?_;rintro e ag ⟨rfl,an⟩;have bN:V _:=HK.o.trans an;have y:V _:=aH.o.keep an;have S:V _:=bw.o.keep an;have cB:V _:=bk.o.keep an yaa;have ec:V (w.heap.size+1+1<=ag.heap.size):=by have:=an.size;rw[a2.o]at this;exact this
 clear an bu HK aH bw a2 bk;go_wp2_with fail;refine yai (bU.o _ bN.o) ?_;rintro e a8 ⟨rfl,rfl⟩;go_wp2_with fail;refine yai (DU _) ?_;rintro e bj ⟨rfl,b7⟩;have bE:=ez 0 0 bj G5;have X:V _:=G6 bj;have bf:V _:=bN.o.trans (b7.trans bE);have cO:V _:=y.o.keep (b7.trans bE);have ak:V _:=S.o.keep (b7.trans bE);have dp:V _:=cB.o.keep (b7.trans bE) yaa;have aJ:V (w.heap.size+1+1<=bj.heap.size/\(bj.alloc G5).heap.size=bj.heap.size+1):=⟨hQ ec.o b7.size,by simp⟩
 obtain⟨_,bi,a5,p2⟩:=cO.o;clear b7 bE bN y S ec cB;go_wp2_with fail;clear bi a5 p2;generalize bj.alloc _=bF at X bf cO ak aJ dp⊢;refine yai (ae.o _ bf.o) ?_;rintro e cg ⟨q,d1,t,d2,r,d3,rfl,⟨bV,bO,cc⟩,⟨f,m,C⟩,⟨cA,ck⟩,cb⟩;have cd:=ez 0 0 cg (eZ q Y d1 t ab d2 r aa d3);have bK:=aJ.o;have bm:=cb.size;have am:=cA.lt;obtain⟨j,f1,aq,u1⟩:=H9 bV HE.o.1 cA;obtain⟨l,f2,aN,u2⟩:=KZ bO HE.o.2.1 (dp.o.keep cb yaa);obtain⟨F,f3,bA,u3⟩:=H9 cc HE.o.2.2 ck;have aK:=Ia u1 u2 xaa f;have aP:=Ia u1 u3 xaa m;have aQ:=Ia u2 u3 xaa C;have aw:V _:=(PG.mk f1 f2 f3 aK aP aQ).keep cd;have au:V (Sl _ _ _ _/\Sl _ _ _ _/\Sl _ _ _ _):=⟨aq,aN,bA⟩
 have bG:=f1.lt;have aC:=f2.lt;have ay:=f3.lt;have dg:V ((j≠cg.heap.size/\l≠cg.heap.size/\F≠cg.heap.size)/\(j≠w.heap.size+1/\l≠w.heap.size+1/\F≠w.heap.size+1)/\cg.heap.size≠w.heap.size+1):=⟨⟨by omega,by omega,by omega⟩,⟨by omega,by omega,by omega⟩,by omega⟩
 have I:V ((w.heap.size<=cg.heap.size/\w.heap.size<=l/\w.heap.size<=F)/\w.heap.size<=j):=⟨⟨by omega,by omega,by omega⟩,by omega⟩
 have af:V _:=tP cg (.slice q Y d1) (.slice t ab d2) (.slice r aa d3);have aM:V _:=ak.o.keep (cb.trans cd);have aA:V _:=X.o.keepC (S:=λ_=>False) (cb.trans cd).chg id;have cF:V _:=bf.o.trans (cb.trans cd);clear bV bO cc f m C cA ck cb cd bK bm am f1 f2 f3 aq aN bA u1 u2 u3 aK aP aQ bG aC ay X bf cO ak ae bU dp;go_wp2_with fail;generalize cg.alloc _=cf at aw af aM aA cF⊢;go_loopw [28] (λx W=>∃k:Nat,k<=1/\x=hF k/\V (k=0->W=cf)/\V (k=1->∃t G n d us,OpK w W cg.heap.size (w.heap.size+1) q t r j Y d1 G n d F aa d3 ins us (gl p vs outs)/\w.heap.size<=G)) (λx _=>1-(intOf x).toNat)
 case atStart=>exact⟨0,Nat.zero_le _,rfl,λ_=>rfl,λc=>by omega⟩
 case round=>
  obtain⟨k,O,rfl,bn,aj⟩:=hrel;rcases (by omega:k=0\/k=1) with rfl|rfl
  ·obtain rfl:=bn.o rfl;clear bn aj O;obtain⟨cJ,op,al,rfl,aO,_,_,bX⟩:=(IS.keep ah.o cF.o yaa).at_idx (o:=0) xaa xaa;obtain rfl:al=0:=xaa;have aU:wr.cell? ⟨_,op,_⟩=some (.int _ p):=bX;obtain⟨_,bo,az,aZ,bH,f1,f2⟩:=af.o;obtain⟨_,br,a1,Z,a3,a4⟩:=aA.o;have aI:V _:=λW' W2 B2' G2' n2' c2' o bS bI bL bM cj cx cM=>Ib (ins:=ins) (W':=W') (W2:=W2) (G2':=G2') (n2':=n2') (c2':=c2') (B2':=B2') (us:=o) (M:=gl p vs outs) af.o aM.o dg.o I.o.1 cF.o bS bI bL bM cj cx cM;have ch:V _:=cF.o.size;have aT:=P;clear bX aO P;rcases aT with rfl|rfl
   ·have u:V _:=λW' bS=>(Pz W' q _ _ _ _ d1 _ _ d2 _ _ d3 _ _ _ (aw.o.keep bS) s.o.2 s.o.1 au.o.2.1.pos au.o.2.2.pos).mono λe J h=>by
     rw[AX]at h
     exact h.k
    go_wp2_with fail;go_region_with ((go_at_call 74;refine yai (u.o _ (eG _)) ?_;rintro e b4 ⟨B2',G2',n2',c2',o,rfl,bR,aS,bb,bq,bD,bg⟩;obtain⟨v,z⟩:=aI.o _ _ _ _ _ _ _ (eG _) bR aS bb bq bD bg;obtain⟨_,b8,Q,bh,ai,B,U⟩:=v;have R:V _:=z;have R2:V (w.heap.size<=G2'):=(by have:=ch.o;have:=I.o;have:wr.drew.heap.size=wr.heap.size:=rfl;show _<=_;omega);clear z bR aS bb bq bD bg))
    all_goals
     go_wp2
     go_roundw
     case rel=>exact⟨1,by omega,by go_num,λc=>by omega,λ_=>⟨_,_,_,_,_,R.o,R2.o⟩⟩
     case measure=>simp[intOf]
   have u:V _:=λW' bS=>(K0 W' q _ _ _ _ d1 _ _ _ _ _ d3 _ _ _ (aw.o.keep bS) s.o.2 s.o.1 au.o.2.1 au.o.2.2.pos).mono λe J h=>by
    rw[AY]at h
    exact h
   go_wp2_with fail;go_region_with ((go_at_call 75;refine yai (u.o _ (eG _)) ?_;rintro e b4 ⟨B2',G2',n2',c2',o,rfl,bR,aS,bb,bq,bD,bg⟩;obtain⟨v,z⟩:=aI.o _ _ _ _ _ _ _ (eG _) bR aS bb bq bD bg;obtain⟨_,b8,Q,bh,ai,B,U⟩:=v;have R:V _:=z;have R2:V (w.heap.size<=G2'):=(by have:=ch.o;have:=I.o;have:wr.drew.heap.size=wr.heap.size:=rfl;show _<=_;omega);clear z bR aS bb bq bD bg))
   all_goals
    go_wp2
    go_roundw
    case rel=>exact⟨1,by omega,by go_num,λc=>by omega,λ_=>⟨_,_,_,_,_,R.o,R2.o⟩⟩
    case measure=>simp[intOf]
  obtain⟨t,G,n,d,us,bx,bl⟩:=aj.o rfl;obtain⟨_,bo,az,aZ,bH,f1,f2⟩:=bx.ob;obtain⟨_,aW,aq,aN,av,ba,bc⟩:=bx.res;have aL:V _:=bx;have bQ:V _:=bl;clear bx bn aj bl;go_wp2_with fail;obtain⟨bd,aR,aV⟩:=fg _ _ _ _ _ aW aq aN (.slice q Y d1) (.slice t n d) (.slice r aa d3);have K:=fh wr (w.heap.size+1) (.slice q Y d1) (.slice t n d) (.slice r aa d3);have ca:=aL.o.ne;have ax:=I.o;refine yay (v:=.tuple #[eX q Y d1 t n d r aa d3,hF 0]) (by simp[results,results25,go_sem,bd,aR,aV]) rfl ⟨q,d1,t,n,d,r,d3,us,rfl,au.o.1.ni (aL.o.pg.i.keep K xaa),aL.o.sl.lv (aL.o.pg.v.keep K xaa),au.o.2.2.ni (aL.o.pg.o.keep K xaa),⟨λg e=>?_,λg e=>?_,λg e=>?_⟩,aL.o.lk,aL.o.kb,aL.o.ke.new K xaa⟩
  ·have ed:=bQ.o;rcases aL.o.sl with⟨c,_⟩|c<;>rw[c]at e<;>cases e
   omega
  ·rcases au.o.1 with⟨c,_⟩|c<;>rw[c]at e<;>cases e
   omega
  rcases au.o.2.2 with⟨c,_⟩|c<;>rw[c]at e<;>cases e
  omega):Zp:=h
open bU in
theorem P6(w p)(P:p=0\/p=1)(N aD ad bJ Y c1 ab c2 aa c3 ap ao b0 ins vs outs)(B:LsI w N Y c1 ins)(U:LsV w aD ab c2 vs)(h3:LsI w ad aa c3 outs)(aB:Kb vs)(h:okG ins vs outs=true)(aF:IS w ap ao bJ 1 [p]):
  Calls prog 25 #[eX N Y c1 aD ab c2 ad aa c3,.slice bJ 1 b0] w (PRk w Y aa ins (gl p vs outs)):=by
 obtain⟨⟨ci,cz,ct⟩,_,_,_,_⟩:=gM h;rw[B.1]at ci;rw[U.1]at cz;rw[h3.1]at ct;have H:=ez 0 0 w (eZ N Y c1 aD ab c2 ad aa c3);have i:=ez 0 0 (w.alloc (eZ N Y c1 aD ab c2 ad aa c3)) fE;have ar:=H.trans i;have bu:V _:=uA _ _ _ _ _ c1 _ c2 _ c3 _ _ _ (GS.keep ⟨B.is,U.vs aB,h3.is⟩ ar);rw[h]at bu
 have bU:V (∀W,Kept 0 0 w W->_):=λW bS=>by
  have:=Kw W _ _ bJ 1 b0 5 [p] (aF.keep bS yaa) xaa
  rw[List.all_cons,List.all_nil,Bool.and_true,show fN p 5=true from decide_eq_true xaa]at this
  exact this
 have ah:V _:=aF;have ae:V _:=λW bS=>PA W _ _ _ _ _ _ _ _ _ _ _ _ (B.keep bS) (U.keep bS) (h3.keep bS) xaa xaa xaa;have HE:V (ins.length=Y/\vs.length=ab/\outs.length=aa):=⟨B.1,U.1,h3.1⟩
 have aH:V _:=(fO w _ _ _).keep i;have bk:V _:=(A9 w _ _).keep i yaa;exact qcb
theorem Oj(w:World)(p):IS (w.alloc (.cells #[hF p] 3)) 0 (w.heap.size+1) (some ⟨w.heap.size,0,none⟩) 1 [p]:=
 ⟨rfl,.inr ⟨w.heap.size,0,rfl,Nat.zero_le _,yae,by simp,λk O=>by
  obtain rfl:k=0:=xaa
  simp⟩⟩
theorem bV.qcc(h:Zp:=by
 have bw:V _:=bB.keep (ez 0 0 _ (.cells #[hF p] 3));clear ar bB bz B U h3 h aB;go_enter func9,ntmps9;go_wp2_with fail;refine yai bu.o ?_;clear bu;generalize ((w.alloc _).alloc _).alloc _=aG at HK bw ch⊢;rintro e ag ⟨q,d1,t,s,d2,r,d3,us,rfl,aS,bb,bq,⟨b5,bJ,cu⟩,al,bD,an⟩;obtain⟨_,a7,aK,aP,bH,f1,f2⟩:=RB.keep bw.o an;have bz:=ch.o;obtain⟨bd,aR,aV⟩:=fg _ _ _ _ _ a7 aK aP (.slice q Y d1) (.slice t s d2) (.slice r aa d3);have K:=fh ag (w.heap.size+1) (.slice q Y d1) (.slice t s d2) (.slice r aa d3);have au:∀{b:Option _}{n c:Nat}{xs:List _},LsI _ b n c _->(∀g,b=some _->aG.heap.size<=g)->LsI (fF ag _ _ _ _) b n c xs:=λh l=>⟨h.1,h.2.imp id λ⟨g,e,f⟩=>⟨g,e,f.keep K (hO (l g e))⟩⟩
 have O:=HK.o.size
 have R:V (PRk w _ _ _ _ _ _):=
  ⟨_,_,_,_,_,_,_,_,rfl,au aS bJ,⟨bb.1,bb.2.imp id λ⟨g,e,f⟩=>⟨g,e,f.keep K (hO (b5 g e))⟩⟩,au bq cu,⟨λg e=>hO (b5 g e),λg e=>hO (bJ g e),λg e=>hO (cu g e)⟩,al,bD,(HK.o.trans an).new K xaa⟩
 clear an K aS bb bq al bD bz bJ b5 cu au O;go_wp2_with fail;exact yay (v:=.tuple #[eX q Y d1 t s d2 r aa d3,hF 0]) (by simp[results,results9,go_sem,bd,aR,aV]) rfl R.o):Zp:=h
open bV in
theorem rpC(w p)(P:p=0\/p=1)(N aD ad Y c1 ab c2 aa c3 ins vs outs)(B:LsI w N Y c1 ins)(U:LsV w aD ab c2 vs)(h3:LsI w ad aa c3 outs)(aB:Kb vs)(h:okG ins vs outs=true):
  Calls prog 9 #[eX N Y c1 aD ab c2 ad aa c3,hF p] w (PRk w Y aa ins (gl p vs outs)):=by
 have bz:((w.alloc (eZ N Y c1 aD ab c2 ad aa c3)).alloc fE).heap.size=w.heap.size+1+1:=by simp
 have ar:=((ez 0 0 w (eZ N Y c1 aD ab c2 ad aa c3)).trans (ez 0 0 _ fE)).trans (ez 0 0 _ (.cells #[hF p] 3));have bu:V _:=P6 _ p P _ _ _ _ _ _ _ _ _ _ _ _ 1 _ _ _ (B.keep ar) (U.keep ar) (h3.keep ar) aB h (Oj _ p);rw[bz]at bu;have ch:V (w.heap.size+1+1<(((w.alloc (eZ N Y c1 aD ab c2 ad aa c3)).alloc fE).alloc (.cells #[hF p] 3)).heap.size):=by show _<_;simp
 have HK:V _:=ar;exact qcb
