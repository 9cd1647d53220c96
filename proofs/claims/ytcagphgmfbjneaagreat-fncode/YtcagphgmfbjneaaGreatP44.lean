import Derived.Test.YtcagphgmfbjneaaGreatP31
import Derived.Test.YtcagphgmfbjneaaGreatP43
namespace Go.Proofs.Z
variable{Zp:Prop}
open Tryz Go.RowKit Flt
set_option maxRecDepth 1000000
set_option maxHeartbeats 0
section
attribute[local go_sem] eE eD eC
variable{q:Spn->Bool}{ins:List Int}{ss:List Ste}{s:Ste}{aL:Int}{k:Nat}
theorem cI.qcr(h:Zp:=by
 clear aG;cases t:(decide (Z<=20)&&ins.all lenB)
 ·rw[t]at HX;go_enter func5,ntmps5;go_wp2_with fail;refine yaj HX.o ?_;rintro e am ⟨rfl,bM⟩;go_wp2;go_ret;exact⟨rfl,Kept.trans HK.o bM⟩
 rw[t]at HX;have aS:decide (Z<=20)=true/\ins.all lenB=true:=by grind
 rw[aS.1,aS.2]at h;go_enter func5,ntmps5;go_wp2_with fail;refine yaj HX.o ?_;rintro e am ⟨rfl,bM⟩;obtain⟨_,aP,ay,aB,bz⟩:=T.o.keep bM;have R:V _:=Kept.trans HK.o bM;by_cases a0:ae<=2000
 ·by_cases b9:ab<=50
  ·rw[decide_eq_true a0,decide_eq_true b9]at h;have h':¬(0<=aL/\aL<=50000):=of_decide_eq_false (by simpa using h);clear h bM HX t aS;have aV:decide (2000<(ae:Int))=false:=yay xaa;have aa:decide (50<(ab:Int))=false:=yay xaa;by_cases bN:aL<0
   ·go_wp2;go_ret;exact⟨rfl,R.o⟩
   have a:=yay bN;have cz:50000<aL:=xaa;go_wp2;go_ret;exact⟨rfl,R.o⟩
  clear h bM HX t aS;have aV:decide (2000<(ae:Int))=false:=yay xaa;have aa:decide (50<(ab:Int))=true:=decide_eq_true xaa;go_wp2;go_ret;exact⟨rfl,R.o⟩
 clear h bM HX t aS;have aV:decide (2000<(ae:Int))=true:=decide_eq_true xaa;go_wp2;go_ret;exact⟨rfl,R.o⟩):Zp:=h
open cI in
theorem AN(w lo hi a1 J a3 Z c1 ae c2 ab c3 aL ins)(f:IS w lo hi a1 Z ins)(h:kV ins ae ab aL=false):
  Calls prog 5 #[iQ a1 Z c1 J ae c2 a3 ab c3 aL] w λe B=>e=.returned (.bool false)/\Kept 0 0 w B:=by
 have aG:=eA 0 0 w (iE a1 Z c1 J ae c2 a3 ab c3 aL);have HX:V _:=sY _ _ _ _ _ c1 _ (f.keep aG yaa);have ai:=f.len;unfold kV at h;rw[ai]at h;clear f;exact qcq
theorem Iy{i}(O:k<cnt s.op)(v)(h:(jA ss i aL (lP s k) (mN s k)&&!decide (s.dst<lP s k+mN s k/\lP s k<s.dst+s.len))=v):∃p,(eY s)[k]? =some p/\jB ss i aL s p=v:=by
 grind[qg,jB,Hm]
theorem wG{p}(h:(eY s)[k]? =some p)(t:q p=false):(eY s).all q=false:=by
 grind
theorem BU{p}(h:(eY s)[k]? =some p)(t:q p=true)(be:((eY s).take k).all q=true):((eY s).take (k+1)).all q=true:=by
 obtain⟨O,e⟩:=List.getElem?_eq_some_iff.1 h;rw[yau O,List.all_append,be,e];simpa using t
theorem BV{n}(aQ:aL<=50000)(h:(List.range n).all (iA ins ss aL)=true):Lie ss n:=λk O=>by
 have:=sr aQ h k O
 omega
theorem wH(h:fA ins s=true)(O:k<cnt s.op):1<=mN s k/\mN s k<=1000:=by
 unfold mN;split
 ·exact uI h xaa
 exact jV h
theorem cJ.qcr(h:Zp:=by
 have aV:decide (2000<(ae:Int))=false:=yay xaa;have aa:decide (50<(ab:Int))=false:=yay xaa;have bN:decide (aL<0)=false:=yay xaa;have cz:decide (50000<aL)=false:=yay xaa;clear aG f t h ed;go_enter func5,ntmps5;exact qfc):Zp:=h
theorem cJ.qfd(h:Zp:=by
 clear bM HX;obtain⟨_,aP,ay,aB,bz⟩:=T.o;go_wp2_with fail;clear aP ay aB bz aV aa bN cz;go_loopw [3] (λi W=>∃k:Nat,k<=ae/\i=h1 k/\V ((List.range k).all (iA ins ss aL)=true)/\V (Kept 0 0 am W)) (λi _=>ae-(intOf i).toNat)
 case atStart=>exact⟨0,yae,rfl,rfl,Kept.refl _ _ _⟩
 case round=>
  obtain⟨k,O,rfl,be,G⟩:=hrel;obtain⟨_,aP,ay,aB,bz⟩:=T.o.keep G.o;have I:V _:=aD.o.keep G.o;by_cases hlt:k<ae
  ·rcases I.o.s.at_ with bP|⟨d,bL,bS,aR,bd,bu,bC⟩
   ·omega
   have Q:V _:=BV bk be.o;have aK:V (iA _ ss _ k=(fA ins _&&(kM _ _ aL&&(eY _).all _))):=rfl;have bw:=bC k hlt;have bj:=eA 0 0 wr (ss.getD k Ste.zero).box;have b1:V _:=jD wr (ss.getD k Ste.zero);generalize ss.getD k _=s at bw aK b1 bj;subst bS;obtain⟨bR,aM,bi,aI,r,aC,a7,bT⟩:=bw;clear aR bd bu bC;have ca:V _:=(T.o.keep G.o).keep bj;have cG:V _:=I.o.keep bj;have aO:V _:=Kept.trans G.o bj;have hP:wr.heap.size<(wr.alloc s.box).heap.size:=by simp
   have aq:=yak T.o.sz G.o.size;go_wp2_with fail;clear bR aM bi aI r aC a7 bT aP ay aB bz;generalize ad:wr.heap.size=P at b1 hP aq⊢;generalize wr.alloc _=aU at b1 ca cG aO hP bj⊢;clear I ad G bj;refine yaj (OH _ _ _ _ _ _ _ _ _ _ _ _ _ s _ cG.o.i) ?_;rintro e bA ⟨rfl,g⟩;have an:V _:=ca.o.keep g;have cJ:V _:=cG.o.keep g;have ak:V _:=b1.o.keep hP g yaa;have a0:V _:=Kept.trans aO.o g;have H:=yak hP g.size;clear ca cG b1 aO g hP;obtain⟨_,aP,ay,aB,bz⟩:=an.o;obtain⟨bR,aM,bi,aI,r,aC,a7,bT⟩:=ak.o;simp only[Nat.zero_add]at aM bi aI r aC a7 bT;cases a:fA ins s
   ·have R:V (iG _ _ a8 _=false):=lg (i1 HN.o.1 hlt) (by rw[aK.o,a];rfl);exact xhu
   have b8:=jV a;have X:IntKind.i64.wrap (aL-s.len)=aL-s.len:=by rw[IntKind.wrap_i64];omega
   by_cases u1:s.dst<0
   ·have R:V (iG _ _ a8 _=false):=lg (i1 HN.o.1 hlt) (by rw[aK.o,a,show kM _ _ _=false from yay xaa];rfl);exact xhu
   by_cases u2:aL-s.len<s.dst
   ·have R:V (iG _ _ a8 _=false):=lg (i1 HN.o.1 hlt) (by rw[aK.o,a,show kM _ _ _=false from yay xaa];rfl);have R2:V _:=Kept.trans HK.o a0.o;have K:=yay u1;go_wp2;go_ret;exact⟨i4 R.o,R2.o⟩
   have K:=yay u1;have N:=yay u2
   have S:V (iA ins ss aL k=(eY s).all (jB ss k aL s)):=by
    show _=_;rw[aK.o,a,show kM _ _ _=true from decide_eq_true xaa];rfl
   have b4:=tE a
   have HO:V _:=λw=>by
    have:=jr s.op w b4.1 b4.2
    rw[F2 b4.1 b4.2]at this
    exact this
   have cA:=gK s.op;go_wp2_with fail;clear bR aM bi aI r aC a7 bT aP ay aB bz aK K N X;go_loopw [5] (λx W=>∃q:Nat,q<=cnt s.op/\x=h1 q/\V (((eY s).take q).all (jB ss k aL s)=true)/\V (Kept 0 0 bA W)) (λx _=>3-(intOf x).toNat)
   case atStart=>exact⟨0,yae,rfl,rfl,Kept.refl _ _ _⟩
   case round=>
    obtain⟨q,aA,rfl,C,az⟩:=hrel;obtain⟨_,aP,ay,aB,bz⟩:=an.o.keep az.o;obtain⟨bR,aM,bi,aI,r,aC,a7,bT⟩:=ak.o.keep H az.o yaa;simp only[Nat.zero_add]at aM bi aI r aC a7 bT;by_cases F:q<cnt s.op
    ·go_wp2_with (first|(go_at_call 19;refine(HO.o _).mono ?_;rintro e bD ⟨rfl,rfl⟩)|fail);refine yaj (yw _ s q xaa) ?_;rintro e bD ⟨rfl,b⟩;replace az:V _:=Kept.trans az.o b;clear b aP ay aB bz bR aM bi aI r aC a7 bT;obtain⟨_,aP,ay,aB,bz⟩:=an.o.keep az.o;obtain⟨bR,aM,bi,aI,r,aC,a7,bT⟩:=ak.o.keep H az.o yaa;simp only[Nat.zero_add]at aM bi aI r aC a7 bT;go_wp2_with fail;refine yaj (Hq _ s q xaa) ?_;rintro e cn ⟨rfl,n⟩;replace az:V _:=Kept.trans az.o n;clear n aP ay aB bz bR aM bi aI r aC a7 bT;obtain⟨_,aP,ay,aB,bz⟩:=an.o.keep az.o;obtain⟨bR,aM,bi,aI,r,aC,a7,bT⟩:=ak.o.keep H az.o yaa;simp only[Nat.zero_add]at aM bi aI r aC a7 bT;go_wp2_with fail;refine yaj (Iu _ _ _ _ _ _ _ _ _ _ _ _ _ bH bk _ (cJ.o.keep az.o).s k xaa xaa Q.o _ _) ?_;rintro e cd ⟨rfl,aH⟩;replace az:V _:=Kept.trans az.o aH;clear aH aP ay aB bz bR aM bi aI r aC a7 bT;obtain⟨_,aP,ay,aB,bz⟩:=an.o.keep az.o;obtain⟨bR,aM,bi,aI,r,aC,a7,bT⟩:=ak.o.keep H az.o yaa;simp only[Nat.zero_add]at aM bi aI r aC a7 bT;have u:=wH a F;rw[iV u.1 u.2,Bool.true_and];have bI:V (∀v:Bool,(jA ss k aL _ _&&!decide _)=v->_):=λv h=>Iy F v h;cases U:jA ss k aL (lP s q) (mN s q)
     ·have R:V (iG ins ss a8 aL=false):=by
       obtain⟨p,af,bg⟩:=bI.o false (i4 U);exact lg (i1 HN.o.1 hlt) (by rw[S.o];exact wG af bg)
      have R2:V _:=Kept.trans HK.o (Kept.trans a0.o az.o);go_wp2;go_ret;exact⟨i4 R.o,R2.o⟩
     have aN:=kX U;have ao:(s.dst<lP s q+mN s q/\lP s q<s.dst+s.len)\/¬(s.dst<lP s q+mN s q/\lP s q<s.dst+s.len):=Decidable.em _;rw[U]at bI;have R2:V _:=Kept.trans HK.o (Kept.trans a0.o az.o);generalize lP s q=x at u aN ao bI⊢;generalize mN s q=y at u aN ao bI⊢;have bm:IntKind.i64.wrap (s.dst+s.len)=s.dst+s.len:=by rw[IntKind.wrap_i64];omega
     have ea:IntKind.i64.wrap (x+y)=x+y:=by rw[IntKind.wrap_i64];omega
     clear U;rcases ao with ao|ao
     ·have R:V (iG ins ss a8 aL=false):=by
       obtain⟨p,af,bg⟩:=bI.o false (by rw[decide_eq_true ao];rfl);exact lg (i1 HN.o.1 hlt) (by rw[S.o];exact wG af bg)
      have m1:=ao.2;have bl:=ao.1;clear ao bI;go_wp2;go_ret;exact⟨i4 R.o,R2.o⟩
     have R:V (((eY s).take (q+1)).all (jB ss k aL s)=true):=by
      obtain⟨p,af,bg⟩:=bI.o true (by rw[yay ao];rfl);exact BU af bg C.o
     by_cases m1:x<s.dst+s.len
     ·have bl:=yay (λc=>ao ⟨c,m1⟩);exact xhc
     have bl:=yay m1;exact xhc
    have R:V _:=ig be.o (show iA _ _ _ k=true by
     rw[S.o];have:=C.o;rw[yap (by rw[lV];omega)]at this;exact this)
    have R2:V _:=Kept.trans a0.o az.o;go_wp2_with (first|(go_at_call 19;refine(HO.o _).mono ?_;rintro e bD ⟨rfl,rfl⟩)|fail);go_roundw;exact⟨k+1,by omega,by go_num,R,R2⟩;simp[intOf];omega
  have bO:V ((List.range ae).all (iA ins ss aL)=true):=by
   have:=be.o;rw[show k=ae by omega]at this;exact this
  have Q:V _:=BV bk bO.o;clear be;go_wp2_with fail;clear aP ay aB bz;go_loopw [8] (λi W=>∃k:Nat,k<=ab/\i=h1 k/\V ((a8.take k).all (oe ss aL)=true)/\V (Kept 0 0 am W)) (λi _=>ab-(intOf i).toNat)
  case atStart=>exact⟨0,yae,rfl,rfl,G⟩
  case round=>
   rename_i ag;obtain⟨j,hj,rfl,l,az⟩:=hrel;obtain⟨_,aP,ay,aB,bz⟩:=T.o.keep az.o;by_cases cr:j<ab
   ·rcases (aD.o.keep az.o).o.at_ with bP|⟨d,bL,bS,aR,bd,bu,bC⟩
    ·omega
    have bw:=bC j cr
    have HX:V (∀m,Calls _ _ _ _ λe B=>e=.returned (.bool (oe ss _ _))/\Kept 0 0 _ _/\Kept 0 0 _ _):=λm=>by
     have:=Iu _ _ _ a1 _ a3 Z c1 _ c2 ab c3 _ bH bk _ ((aD.o.keep az.o).keep (eH 0 0 _ m)).s _ yad xaa Q.o (a8.getD j Spn.zero).off (a8.getD j Spn.zero).len
     refine this.mono λe B h=>⟨?_,Kept.trans az.o (Kept.trans (eH 0 0 _ m) h.2),Kept.trans (eH 0 0 _ m) h.2⟩
     rw[h.1];unfold oe;rw[HN.o.1]
    subst bS;cases z:oe ss aL (a8.getD j Spn.zero)
    ·have R:V (iG ins _ _ _=false):=Az (i1 HN.o.2 cr) z;rw[z]at HX;generalize a8.getD j _=p at bw HX;have al:V _:=bw;have ax:V _:=bu;obtain⟨bR,aM⟩:=bw;have cq:(0:Int)<=j:=xaa;have cc:(j:Int)<ab:=xaa;clear aR bd bu bC z l;go_wp2_with fail
     go_region_held3 (λB=>B.cell? ⟨w.heap.size,0,none⟩=some (.slice a1 Z c1)/\B.cell? ⟨w.heap.size,1,none⟩=some (.slice J ae c2)/\B.cell? ⟨w.heap.size,2,none⟩=some (.slice (some ⟨d,bL,none⟩) ab c3)/\B.cell? ⟨w.heap.size,3,none⟩=some (h1 aL)/\B.cell? ⟨d,bL+j*2,none⟩=some (h1 p.off)/\B.cell? ⟨d,bL+j*2+1,none⟩=some (h1 p.len)) (go_keep)
      (first|(go_at_call 22;refine yaj (HX.o 1) ?_;rintro e bD ⟨rfl,b,n⟩;obtain⟨_,bF,bB,bG,b3⟩:=C0.keep T.o b;obtain⟨bh,aJ⟩:=AtP.keep al.o ax.o n yaa))
     all_goals
      have R2:V _:=Kept.trans HK.o b
      go_wp2
      go_ret
      exact⟨i4 R.o,R2.o⟩
    have R:V _:=wC (i1 HN.o.2 cr) l.o z;rw[z]at HX;generalize a8.getD j _=p at bw HX;have al:V _:=bw;have ax:V _:=bu;obtain⟨bR,aM⟩:=bw;have cq:(0:Int)<=j:=xaa;have cc:(j:Int)<ab:=xaa;clear aR bd bu bC z l;go_wp2_with fail
    go_region_held3 (λB=>B.cell? ⟨w.heap.size,0,none⟩=some (.slice a1 Z c1)/\B.cell? ⟨w.heap.size,1,none⟩=some (.slice J ae c2)/\B.cell? ⟨w.heap.size,2,none⟩=some (.slice (some ⟨d,bL,none⟩) ab c3)/\B.cell? ⟨w.heap.size,3,none⟩=some (h1 aL)/\B.cell? ⟨d,bL+j*2,none⟩=some (h1 p.off)/\B.cell? ⟨d,bL+j*2+1,none⟩=some (h1 p.len)) (go_keep)
     (first|(go_at_call 22;refine yaj (HX.o 1) ?_;rintro e bD ⟨rfl,b,n⟩;obtain⟨_,bF,bB,bG,b3⟩:=C0.keep T.o b;obtain⟨bh,aJ⟩:=AtP.keep al.o ax.o n yaa))
    all_goals
     go_wp2
     go_roundw;exact⟨j+1,by omega,by go_num,R,b⟩;simp[intOf];omega
   have R:V (iG ins ss a8 aL=true):=by
    show _=_;have:=l.o;rw[yap (i3 HN.o.2)]at this;unfold iG;rw[Y.o,this,HN.o.1,bO.o];rfl
   have R2:V _:=Kept.trans HK.o az.o;go_wp2;go_ret;exact⟨i4 R.o,R2.o⟩):Zp:=h
open cJ in
theorem BW(w a1 J a3 Z c1 ae c2 ab c3 aL ins ss a8)(f:CS w a1 Z J ae a3 ab ins ss a8)(h:kV ins ae ab aL=true):
  Calls prog 5 #[iQ a1 Z c1 J ae c2 a3 ab c3 aL] w λe B=>e=.returned (.bool (iG ins ss a8 aL))/\Kept 0 0 w B:=by
 have aG:=eA 0 0 w (iE a1 Z c1 J ae c2 a3 ab c3 aL);have t:=f.keep aG;have HX:V _:=sY _ _ _ _ _ c1 _ t.i;have h':=h;unfold kV at h';rw[f.i.len]at h';simp only[Bool.and_eq_true,decide_eq_true_eq]at h';obtain⟨⟨⟨⟨b6,cf⟩,b7⟩,ed⟩,bH,bk⟩:=h';rw[ed,decide_eq_true b6]at HX;have Y:V (kV ins ss.length a8.length aL=true):=by rw[f.s.len,f.o.len];exact h
 have HN:V (ss.length=ae/\a8.length=ab):=⟨f.s.len,f.o.len⟩
 have aD:V _:=t;exact qcq
theorem yG(w a1 J a3 Z c1 ae c2 ab c3 aL ins ss a8)(f:CS w a1 Z J ae a3 ab ins ss a8):
  Calls prog 5 #[iQ a1 Z c1 J ae c2 a3 ab c3 aL] w λe B=>e=.returned (.bool (iG ins ss a8 aL))/\Kept 0 0 w B:=by
 cases h:kV ins ae ab aL
 ·rw[Ay (by rw[f.s.len,f.o.len];exact h)];exact AN w _ _ _ _ _ _ _ _ _ _ _ _ _ f.i h
 exact BW w _ _ _ _ _ _ _ _ _ _ _ _ _ f h
theorem wI(b):∀k,∀x∈jb b k,0<=x/\x<256
 |0=>by simp[jb]
 |k+1=>by
  intro x ap
  rw[jb,List.mem_append]at ap
  rcases ap with h|h
  ·exact wI b k x h
  ·simp at h;omega
theorem nN{v}(h:0<=v/\v<65536):∀x∈it v,0<=x/\x<256:=by
 intro x ap;simp[it]at ap;omega
theorem LQ{a8}(h:SvOK ins ss a8 aL):∀x∈mq ins ss a8 aL,0<=x/\x<256:=by
 have ba:∀xs:List _,(∀y∈xs,0<=y/\y<65536)->∀x∈xs.flatMap it,0<=x/\x<256:=λxs ap x ao=>by
  obtain⟨y,F,h2⟩:=List.mem_flatMap.1 ao
  exact nN (ap y F) x h2
 have F:=h.li;have h2:=h.ls;have h3:=h.lo;intro x ap;unfold mq at ap;simp only[List.mem_append]at ap;rcases ap with ((((((ap|ap)|ap)|ap)|ap)|ap)|ap)|ap
 ·simp at ap;omega
 ·exact nN xaa x ap
 ·exact ba _ h.i x ap
 ·exact nN xaa x ap
 ·obtain⟨s,aw,ao⟩:=List.mem_flatMap.1 ap;obtain⟨k,O,rfl⟩:=List.getElem_of_mem aw;have e:ss.getD k Ste.zero=ss[k]:=by rw[yai,yam O];rfl
  have bx:=h.s k O;rw[e]at bx;unfold my at ao;simp only[List.mem_append]at ao;rcases ao with (ao|ao)|ao
  ·simp at ao;omega
  ·exact ba _ bx.2 x ao
  split at ao
  ·exact wI _ _ x ao
  cases ao
 ·exact nN xaa x ap
 ·obtain⟨s,aw,ao⟩:=List.mem_flatMap.1 ap;obtain⟨k,O,rfl⟩:=List.getElem_of_mem aw;have e:a8.getD k Spn.zero=a8[k]:=by rw[yai,yam O];rfl
  have bx:=h.o k O;rw[e]at bx;unfold qe at ao;simp only[List.mem_append]at ao;rcases ao with ao|ao
  ·exact nN bx.1 x ao
  exact nN bx.2 x ao
 exact nN h.p x ap
end
section
variable{ins:List Int}{us ss:List Ste}{a8:List Spn}
def iP(bs:List Int)(p:Nat):Nat->Int
 |0=>0
 |n+1=>iP bs p n+bs.getD (p+n) 0*256 ^ n
def Bts(bs:List Int):Prop:=∀x∈bs,0<=x/\x<256
theorem rQ{bs}(h:Bts bs)(p):∀n,0<=iP bs p n/\iP bs p n<256 ^ n
 |0=>by simp[iP]
 |n+1=>by
  have F:=rQ h p n
  have h2:=sR h (p+n)
  have h3:(0:Int)<256 ^ n:=Int.pow_pos xab
  rw[iP]
  have h4:bs.getD (p+n) 0*256 ^ n<=255*256 ^ n:=Int.mul_le_mul_of_nonneg_right xaa xaa
  have bK:0<=bs.getD _ 0*256 ^ n:=Int.mul_nonneg h2.1 xaa
  omega
theorem LR(bs p):iP bs p 1=bs.getD p 0:=by simp[iP]
theorem LS(bs p):iP bs p 2=bs.getD p 0+256*bs.getD (p+1) 0:=by simp[iP];omega
theorem LT:nk Ste.zero=Ste.zero:=by
 grind[nk,Ste.zero,fb_zero]
section
variable{f:Ste->Ste}
theorem tG(a5:f Ste.zero=Ste.zero)(ss:List Ste)(i):(ss.map f).getD i Ste.zero=f (ss.getD i Ste.zero):=by
 grind
theorem Iz(a5:f Ste.zero=Ste.zero)(ba:∀s,∃k,f s=⟨s.op,s.len,s.n,s.dst,s.a,s.b,s.c,k⟩)(ins ss a8 aL):iG ins (ss.map f) a8 aL=iG ins ss a8 aL:=by
 have w:∀n c,fZ (ss.map f) n c=fZ ss n c:=λn c=>by
  unfold fZ
  rw[<-List.map_take,List.any_map]
  congr 1
  funext s
  obtain⟨k,e⟩:=ba s
  simp_all
 have h:∀n a off len,jA (ss.map f) n a off len=jA ss n a off len:=λn a off len=>by
  unfold jA
  simp only[w]
 have st:iA ins (ss.map f) aL=iA ins ss aL:=by
  funext i;unfold iA;rw[tG a5];obtain⟨k,e⟩:=ba (ss.getD i Ste.zero)
  have ah:jB (ss.map f) i aL (f (ss.getD i Ste.zero))=jB ss i aL (ss.getD i Ste.zero):=by
   funext p;unfold jB;rw[h,e];rfl
  rw[ah,e];rfl
 grind[oe,iG]
end
theorem C5(ss:List Ste)(i):(ss.map nk).getD i Ste.zero=nk (ss.getD i Ste.zero):=tG LT ss i
theorem nQ{xs cs}:∀n,n<=xs.length->iP (xs++cs) 0 n=iP xs 0 n
 |0,_=>rfl
 |n+1,h=>by rw[iP,iP,nQ n xaa,yai,yat xaa,<-yai]
theorem sB(b):∀k,iP (jb b k) 0 k=((b%256 ^ k:Nat):Int)
 |0=>by simp[iP,Nat.mod_one]
 |k+1=>by
  rw[iP,jb,nQ k (by rw[jC];omega),sB b k,Nat.zero_add]
  have e:(jb b k++[((b/256 ^ k%256:Nat):Int)]).getD k 0=(b/256 ^ k%256:Nat):=by simp_all[jC]
  rw[e,Nat.pow_succ,Nat.mod_mul,Int.natCast_add,Int.natCast_mul,Int.natCast_pow,Int.mul_comm]
  rfl
def csS(s:Ste):Ste:=⟨s.op,s.len,s.n,s.dst,s.a,s.b,s.c,if s.op=1 then fb s.k else 0⟩
theorem C6(x)(h:x<18446744073709551616):fb x<18446744073709551616:=by
 unfold fb;grind
theorem tH:csS Ste.zero=Ste.zero:=rfl
theorem qj{aL}(h:us.map csS=ss.map csS):iG ins us a8 aL=iG ins ss a8 aL:=by
 rw[<-Iz tH (λ_=>⟨_,rfl⟩) _ _,h,Iz tH λ_=>⟨_,rfl⟩]
theorem wJ(h:us.map nk=ss.map nk):us.map csS=ss.map csS:=by
 have e:∀l:List _,l.map csS=(l.map _).map csS:=λl=>by
  rw[List.map_map]
  exact List.map_congr_left λs _=>by
   show csS s=csS (nk s)
   grind[csS,nk,rE]
 grind
theorem IA(ss:List Ste):(ss.map csS).map csS=ss.map csS:=by
 grind[List.map_congr_left,csS,rE]
theorem LU{aL}(h:us.map csS=ss.map csS):mq ins us a8 aL=mq ins ss a8 aL:=by
 have e:∀l:List _,l.flatMap my=(l.map csS).flatMap _:=λl=>by
  rw[List.flatMap_map]
  congr 1
  funext s
  show my s=my (csS s)
  unfold my csS fw
  simp only
  split
  ·rw[rE]
  ·rfl
 have ai:us.length=ss.length:=by simpa using congrArg List.length h
 unfold mq;grind
theorem Pa{op len C K b l N P g m J}(O:op=1->fb K=fb b)(az:fS l g)(hb:fS N m)(al:fS P J)(S:∀x∈l,x<18446744073709551616)(a:∀x∈g,x<18446744073709551616):fS (jN op len C K l N P) (jN op len C b g m J):=by
 refine mg (nF az hb al S a) ?_;unfold jN;split
 ·refine pd xac λk q=>?_;have j:k<len.toNat:=by grind
  have e:∀K,((List.range _).map (gS _ C K _ _ _)).getD k 0=gS op C K g m J k:=λK=>by
   rw[yai,List.getElem?_map,List.getElem?_range j];rfl
  grind[gS]
 rfl
section
variable{us ss:List Ste}
theorem Ng(h:us.map csS=ss.map csS)(k):csS (us.getD k Ste.zero)=csS (ss.getD k Ste.zero):=by rw[<-tG tH,h,tG tH]
theorem IB(h:us.map csS=ss.map csS){rs r}(aF:∀k,fS (rs.getD k []) (r.getD k [])):∀n c,fb (iO us rs n c)=fb (iO ss r n c)
 |0,_=>rfl
 |n+1,c=>by
  have e:=Ng h n
  have af:(us.getD n Ste.zero).dst=(ss.getD n Ste.zero).dst:=by injection e
  have bg:(us.getD n Ste.zero).len=(ss.getD n Ste.zero).len:=by injection e
  unfold iO
  rw[af,bg]
  split
  ·exact gD (aF n) _
  ·exact IB h aF n c
theorem IC(h:us.map csS=ss.map csS){rs r}(aF:∀k,fS (rs.getD k []) (r.getD k []))(n off len):fS (i7 us rs n off len) (i7 ss r n off len):=by
 grind[pd,lh,uU,IB]
theorem Nh(h:us.map csS=ss.map csS){xss cH}(ap:∀j,fS (xss.getD j []) (cH.getD j []))(bb:jd xss)(d:jd cH)(aA:∀k,(us.getD k Ste.zero).k<18446744073709551616)(a9:∀k,(ss.getD k Ste.zero).k<18446744073709551616):∀i k,fS ((gl xss us i).getD k []) ((gl cH ss i).getD k [])
 |0,_=>rfl
 |i+1,k=>by
  have G:=Nh h ap bb d aA a9 i
  rcases Nat.lt_trichotomy k i with c|c|c
  ·grind[mW]
  ·subst c
   rw[oU,oU]
   have e:=Ng h k
   have t:=uV bb aA k
   have af:=uV d a9 k
   have az:=λoff len=>IC h G k off len
   have f:=λoff len=>mw (ss:=us) t k off len
   have aj:=λoff len=>mw (ss:=ss) af k off len
   generalize gl _ _ k=rs at az f
   generalize gl _ _ k=r at az aj
   generalize us.getD k _=u at e
   generalize ss.getD k _=s at e
   obtain⟨ch,b9,bf,n,I,a,g,m⟩:=u
   obtain⟨bk,p2,a6,l,cz,b,v,w⟩:=s
   unfold csS at e
   simp only[Ste.mk.injEq]at e
   obtain⟨rfl,rfl,rfl,rfl,rfl,rfl,rfl,e⟩:=e
   unfold doM
   simp only
   split
   ·exact ap _
   ·refine Pa (λq=>by grind) ?_ ?_ ?_ (nG (f _ _)) (nG (aj _ _))
    all_goals
     split
     ·exact az _ _
     ·rfl
  ·rw[yai,List.getElem?_eq_none (by rw[jH];omega),yai,List.getElem?_eq_none (by rw[jH];omega)]
   rfl
theorem Qz(h:us.map csS=ss.map csS){xss cH}(ap:∀j,fS (xss.getD j []) (cH.getD j []))(bb:jd xss)(d:jd cH)(aA:∀k,(us.getD k Ste.zero).k<18446744073709551616)(a9:∀k,(ss.getD k Ste.zero).k<18446744073709551616)(a8 j):fS ((pI xss us a8).getD j []) ((pI cH ss a8).getD j []):=by
 have ai:us.length=ss.length:=by simpa using congrArg List.length h
 unfold pI;rw[ai];by_cases q:j<a8.length
 ·rw[yai,yai,List.getElem?_map,List.getElem?_map,yam q];grind[IC,Nh]
 rw[yai,yai,List.getElem?_eq_none yag,List.getElem?_eq_none yag];rfl
end
end
section
attribute[local go_sem] eE eD eC
variable{ins:List Int}{q N o j l k n m D h c:Nat}{w B:World}{ss:List Ste}{a8:List Spn}{xss:List (List Nat)}{zs xs a9:List Nat}{a:Option Addr}{s:Ste}
structure SSb(w:World)(B:Nat)(a:Option Addr)(n:Nat)(xss:List (List Nat)):Prop where
 len:xss.length=n
 le:B<=w.heap.size
 at_:n=0\/∃g off,a=some ⟨g,off,none⟩/\g<B/\∀k,k<n->∃b c,w.cell? ⟨g,off+k,none⟩=some (.slice b (xss.getD k []).length c)/\(xss.getD k []).length<=c/\FS w 0 B b (xss.getD k []).length (xss.getD k [])
theorem SSb.keep{I}(f:SSb w I a n xss)(k:Kept l h w B)(aO:I<=l\/h<=l):SSb B I a n xss:=
 ⟨f.len,yao f.le k.size,by
  rcases f.at_ with ak|⟨g,off,e,F,h2⟩
  ·exact .inl ak
  ·refine .inr ⟨g,_,e,F,λj hj=>?_⟩
   obtain⟨b,c,a1,J,a3⟩:=h2 j hj
   exact⟨b,c,by rw[k.cell (yak F f.le) (by grind)];exact a1,J,a3.keep k xaa⟩⟩
theorem pB(w)(g N cap o m:Nat)(F:1<=m)(h2:o+m<=cap)(h3:o+m<=1000000):
  Calls prog 34 #[(Spn.mk (o:Int) (m:Int)).agg,h0 g N cap] w λe B=>e=.returned (.slice (some ⟨g,o,none⟩) m (cap-o))/\Kept 0 0 w B:=by
 have aG:=eA 0 0 w (Spn.mk (o:Int) (m:Int)).box;have a7:=kE w (Spn.mk (o:Int) (m:Int));have HK:V _:=aG;have T:V _:=a7;have d:V (w.heap.size<(w.alloc (Spn.mk (o:Int) (m:Int)).box).heap.size):=by show _<_;simp
 obtain⟨aP,ay⟩:=a7;rw[Nat.zero_add]at ay;have HE:V (∀w,Calls prog 59 #[(Spn.mk (o:Int) (m:Int)).agg] w λe B=>e=.returned (h1 ((o:Int)+m))/\Kept 0 0 w B):=λw=>py w (Spn.mk (o:Int) (m:Int)) (by grind);have bc:¬cap=o:=xaa;clear aG;go_enter func34,ntmps34;go_wp2_with fail;generalize w.alloc (Spn.mk (o:Int) (m:Int)).box=aH at HK T d aP ay⊢;go_region_with (go_at_call 59;refine yaj (HE.o _) ?_;rintro e aU ⟨rfl,aZ⟩;have C:=Kept.trans (eH 0 0 aH 1) aZ;obtain⟨bl,aS⟩:=AtP.keep T.o d.o C yaa;rw[Nat.zero_add]at aS)
 all_goals
  go_wp2
  go_ret
  exact⟨rfl,Kept.trans HK.o C⟩
theorem QA:(prog.info? 45).map (·.size)=some 1:=by kernel_rfl
theorem uY{J b}(f:J->b)(L o cs):splice (L.map f) o (cs.map f)=(splice L o cs).map f:=by
 simp[splice,List.map_take,List.map_drop]
theorem EJ{L cs}(h:o+cs.length<=L.length):(splice L o cs).getD k 0=if o<=k/\k<o+cs.length then cs.getD (k-o) 0 else L.getD k 0:=by
 unfold splice;grind
theorem AO(w g cs):Kept g (g+1) w (w.setRow g cs):=
 ⟨rfl,rfl,rfl,by simp[World.setRow],λi _ ag=>setRow_other w g i cs xaa⟩
theorem oV{P bW o a K Q E}(au:o.guard=none)(d s f x)
  (ho:o.op=.call {callee:=.builtin .copy,args:=#[d,s],argTypes:=#[f,x]}) (gS) (a6:P.underlying f=some (.slice gS)) (b2:(P.info? gS).map (·.size)=some 1)
  (av) (e b u r) (g off) (aO:a.eval d=.slice (some ⟨g,off,none⟩) e b) (aw:a.eval s=.slice (some av) u r)
  (ad) (t) (aK:w.heap[g]? =some (.cells ad.toArray t (0,0))) (cs) (ag:cs.length=Nat.min u e)
  (y:∀j v,cs[j]? =some v->w.cell? (av.add j)=some v)
  (C:off+cs.length<=ad.length) (F:∀v∈cs,v.oneCell'=true)
  (h:∀B,V (B.heap[g]? =some (.cells (splice ad off cs).toArray t (0,0)))->Kept g (g+1) w B->K (a.put o.dst (goInt cs.length)) B):
  if Region.wanted o (yielded bW a.tmps)=true then Oper.wp P o a w K Q else E:=by
 have X:Region.wanted o (yielded bW a.tmps)=true:=by simp[Region.wanted,au]
 rw[h7 X];have z:=run_copy_row (P:=P) w _ x o.type _ g _ _ b _ _ r _ t _ a6 b2 aK ag y xaa F;unfold Oper.wp;simp[execOp,ho,resolve,invoke,builtin,aO,aw,z,Result.andThen];exact h _ (show _=_ by grind[splice,setRow_heap]) (AO w g _)
theorem cT.qdb(h:Zp:=by
 have aD:V (∀B,Kept 0 0 (w.alloc (.cells #[h1 D,h1 L,h1 j] 96)) B->B.heap[g]? =some (.cells (zs.map (Value.float .f64)).toArray 45 (0,0))):=λB k=>b0.keep (aG.trans k) yaa;have f:V (∀B,Kept 0 0 (w.alloc (.cells #[h1 D,h1 L,h1 j] 96)) B->∀i u,(xs.map (Value.float .f64))[i]? =some u->B.cell? ((⟨Q,cV,none⟩:Addr).add i)=some u):=λB k=>tr ap (λi hi=>iI (aG.trans k) (Nat.lt_trans bq bv.o) (aC i hi));have d:V ((xs.map (Value.float .f64)).length=Nat.min L L):=by show _=_;rw[List.length_map,ap];exact(Nat.min_self L).symm
 have Y:V (D+(xs.map (Value.float .f64)).length<=(zs.map (Value.float .f64)).length):=by simp_all
 have ad:V (∀v∈xs.map (Value.float .f64),v.oneCell'=true):=λv aN=>by
  obtain⟨x,_,rfl⟩:=List.mem_map.1 aN
  rfl
 have HK:V _:=aG;have cq:0<=(j:Int):=xaa;have cc:(j:Int)<m:=xaa;clear aG b0 cd aC;go_enter func158,ntmps158;go_wp2_with fail;generalize w.alloc (.cells #[h1 D,h1 L,h1 j] 96)=aH at HQ aD f HK aP ay aB bz⊢
 go_region_held3 (λB=>B.cell? ⟨w.heap.size,0,none⟩=some (h1 D)/\B.cell? ⟨w.heap.size,1,none⟩=some (h1 L)/\B.cell? ⟨w.heap.size,2,none⟩=some (h1 j)/\B.cell? ⟨aa,aZ+j,none⟩=some (.slice (some ⟨Q,cV,none⟩) L aK)) (go_keep)
  (first
   |(refine oV rfl (.tmp 9) (.tmp 14) 56 56 rfl 45 underlying56 QA ⟨Q,cV,none⟩ L (N-D) L aK g D rfl rfl (zs.map (Value.float .f64)) 45 (aD.o _ P) (xs.map (Value.float .f64)) d.o (f.o _ P) Y.o ad.o ?_;intro bA cX bW;obtain⟨bF,bB,bG,b3⟩:=HQ.o g (g+1) bA (Kept.trans (P.mono (lo':=g) (hi':=g+1) λb _ c=>by omega) bW) (.inr ⟨yad,yad⟩))
   |(go_at_call 34;refine yaj (bf.o _) ?_;rintro e am ⟨rfl,av⟩;have P:=Kept.trans (eH 0 0 aH 1) av;obtain⟨aY,ar,aW,bJ⟩:=HQ.o 0 0 am P (.inl yad)))
 all_goals
  have R:V (FR bA g (splice zs D xs)):=by
   show _=_
   rw[<-uY]
   exact cX.o
  have R2:V _:=Kept.trans (HK.o.mono (lo':=g) (hi':=g+1) λb _ c=>by omega) (Kept.trans (P.mono (lo':=g) (hi':=g+1) λb _ c=>by omega) bW)
  first|(go_end0;exact⟨rfl,R.o,R2.o⟩)|(refine⟨_,rfl,?_⟩;exact⟨rfl,R.o,R2.o⟩)|(go_wp2;go_ret;exact⟨rfl,R.o,R2.o⟩)):Zp:=h
open cT in
theorem EK(w g N zs)(b0:FR w g zs)(a5:zs.length=N)(bI:N<=50000)(aa aZ m cb)(bO:aa<g)(j D L aK Q cV xs)(ap:xs.length=L)(hj:j<m)
  (cd:w.cell? ⟨aa,aZ+j,none⟩=some (.slice (some ⟨Q,cV,none⟩) L aK)) (bq:Q<g) (aC:∀k,k<L->w.cell? ⟨Q,cV+k,none⟩=some (.float .f64 (xs.getD k 0))) (ci:1<=L) (H:D+L<=N):
  Calls prog 158 #[.agg #[h1 D,h1 L,h1 j],h0 g N N,.slice (some ⟨aa,aZ,none⟩) m cb] w λe B=>e=.returned (.tuple #[])/\FR B g (splice zs D xs)/\Kept g (g+1) w B:=by
 have aG:=eA 0 0 w (.cells #[h1 D,h1 L,h1 j] 96);have bv:V (g<w.heap.size):=b0.lt;have aP:(w.alloc (.cells #[h1 D,h1 L,h1 j] 96)).cell? ⟨w.heap.size,0,none⟩=some (h1 D):=by first|(go_simp;done)|(simp;done)
 have ay:(w.alloc (.cells #[h1 D,h1 L,h1 j] 96)).cell? ⟨w.heap.size,1,none⟩=some (h1 L):=by first|(go_simp;done)|(simp;done)
 have aB:(w.alloc (.cells #[h1 D,h1 L,h1 j] 96)).cell? ⟨w.heap.size,2,none⟩=some (h1 j):=by first|(go_simp;done)|(simp;done)
 have bz:=iI aG (Nat.lt_trans bO b0.lt) cd
 have HQ:V (∀l h B,Kept l h (w.alloc (.cells #[h1 D,h1 L,h1 j] 96)) B->(h<=l\/(g<=l/\h<=g+1))->B.cell? ⟨w.heap.size,0,none⟩=some (h1 D)/\B.cell? ⟨w.heap.size,1,none⟩=some (h1 L)/\B.cell? ⟨w.heap.size,2,none⟩=some (h1 j)/\B.cell? ⟨aa,aZ+j,none⟩=some (.slice (some ⟨Q,cV,none⟩) L aK)):=λl h B k aO=>by
  have hz1:w.heap.size<(w.alloc (.cells #[h1 D,h1 L,h1 j] 96)).heap.size:=by simp
  have aF:=bv.o
  have e:∀b o,b<w.heap.size+1->b≠g->B.cell? ⟨b,o,none⟩=(w.alloc (.cells #[h1 D,h1 L,h1 j] 96)).cell? ⟨b,o,none⟩:=λb o hb bc=>k.cell (p:=⟨b,o,none⟩) (by grind) (by grind)
  grind
 exact qda
def seg(zs:List Nat)(o m:Nat):List Nat:=(zs.drop o).take m
theorem tI(h:o+m<=zs.length):(seg zs o m).length=m:=by simp[seg];omega
theorem BX(h:k<m):(seg zs o m).getD k 0=zs.getD (o+k) 0:=by
 simp_all[seg]
theorem yH(h:∀z∈zs,z<18446744073709551616)(o m):∀z∈seg zs o m,z<18446744073709551616:=λz a5=>h z (List.mem_of_mem_drop (List.mem_of_mem_take a5))
def opS(zs:List Nat)(po pm:Nat->Nat)(q:Nat):List (List Nat):=[if 0<q then seg zs (po 0) (pm 0) else[],if 1<q then seg zs (po 1) (pm 1) else[],if 2<q then seg zs (po 2) (pm 2) else[]]
theorem LW(zs r t)(aA:q<3):(opS zs r t q).set q (seg zs (r q) (t q))=opS zs r t (q+1):=by
 grind[opS]
theorem FR.sg{g}(f:FR w g zs)(X:∀z∈zs,z<18446744073709551616)(h:o+m<=zs.length)(al:m<=c):Cl w (.slice (some ⟨g,o,none⟩) m c) (seg zs o m):=
 ⟨_,m,c,_,rfl,al,⟨tI h,yH X o m,.inr ⟨g,o,rfl,yae,f.lt,f.lt,λk O=>by rw[BX O];exact f.cell _ xaa⟩⟩,rfl⟩
structure KBr(w:World)(p:Nat)(D L op a b c:Int)(K:Nat)(u:Value):Prop where
 lt:p<w.heap.size
 c0:w.cell? ⟨p,0,none⟩=some (.int .i64 D)
 c1:w.cell? ⟨p,1,none⟩=some (.int .i64 L)
 c2:w.cell? ⟨p,2,none⟩=some (.int .i64 op)
 c3:w.cell? ⟨p,3,none⟩=some (.int .i64 L)
 c4:w.cell? ⟨p,4,none⟩=some (.int .i64 a)
 c5:w.cell? ⟨p,5,none⟩=some (.int .i64 b)
 c6:w.cell? ⟨p,6,none⟩=some (.int .i64 c)
 c7:w.cell? ⟨p,7,none⟩=some (.float .f64 K)
 c8:w.cell? ⟨p,8,none⟩=some u
theorem KBr.keep{p D L op a b c K u}(f:KBr w p D L op a b c K u)(k:Kept l h w B)(aO:p<l\/h<=p\/h<=l):KBr B p D L op a b c K u:=by
 have e:∀o,B.cell? _=w.cell? ⟨p,o,none⟩:=λo=>k.cell f.lt (by grind);exact⟨yak f.lt k.size,i1 e f.c0,i1 e f.c1,i1 e f.c2,i1 e f.c3,i1 e f.c4,i1 e f.c5,i1 e f.c6,i1 e f.c7,i1 e f.c8⟩
abbrev EL(D L op a b c:Int)(K:Nat)(u:Value):Obj:=.cells #[.int .i64 D,.int .i64 L,.int .i64 op,.int .i64 L,.int .i64 a,.int .i64 b,.int .i64 c,.float .f64 K,u] 98
theorem EM(w:World)(D L op a b c K u):KBr (w.alloc (EL D L op a b c K u)) w.heap.size D L op a b c K u:=by
 refine⟨by simp,?_,?_,?_,?_,?_,?_,?_,?_,?_⟩;all_goals first|(go_simp;done)|(simp;done)
theorem Cn.pos{lo u}(h:Cn w lo u xs)(L)(bV:xs.length=L)(ak:1<=L):∃gk ok c zs,u=.slice (some ⟨gk,ok,none⟩) L c/\zs.length=L/\(∀k,k<L->w.cell? ⟨gk,ok+k,none⟩=some (.float .f64 (zs.getD k 0)))/\(∀z∈zs,z<18446744073709551616)/\fS zs xs:=by
 obtain⟨b,n,c,zs,rfl,h2,h3,h4⟩:=h;have e:=jp h4;have bg:=h3.len;obtain rfl:n=L:=xaa;rcases h3.at_ with z|⟨gk,ok,rfl,_,_,_,a4⟩
 ·omega
 exact⟨_,_,c,_,rfl,bg,a4,h3.lt,h4⟩
theorem cU.qdb(h:Zp:=by
 have ak:V (∀B,Kept 0 0 wr B->B.heap[g]? =some (.cells (zs.map (Value.float .f64)).toArray 45 (0,0))):=λB k=>FR.keep (w:=w) (g:=g) (xs:=zs) aD.o (Kept.trans J.o k) yaa;have Y:V (∀a9:List Nat,a9.length=L->D+(a9.map (Value.float .f64)).length<=(zs.map (Value.float .f64)).length):=λa9 h=>by rw[List.length_map,List.length_map,h,a5];exact H
 have d:V (∀a9:List Nat,a9.length=L->(a9.map (Value.float .f64)).length=Nat.min L L):=λa9 h=>by rw[List.length_map,h];exact(Nat.min_self L).symm
 have ad:V (∀a9:List Nat,∀v∈a9.map (Value.float .f64),v.oneCell'=true):=λa9 v aN=>by
  obtain⟨x,_,rfl⟩:=List.mem_map.1 aN
  rfl
 generalize az:jN op (L:Int) c K ((opS zs r t q).getD 0 []) ((opS zs r t q).getD 1 []) ((opS zs r t q).getD 2 [])=ap at HE Q⊢;have cH:V _:=az;have bQ:V _:=J.o;clear cj af bg be a7 J az bE y au;go_wp2_with fail
 go_region_held3 (λB=>B.cell? ⟨w.heap.size,0,none⟩=some (h1 D)/\B.cell? ⟨w.heap.size,1,none⟩=some (h1 L)/\B.cell? ⟨w.heap.size,2,none⟩=some (h1 op)/\B.cell? ⟨w.heap.size,3,none⟩=some (h1 L)/\B.cell? ⟨w.heap.size,4,none⟩=some (h1 a)/\B.cell? ⟨w.heap.size,5,none⟩=some (h1 b)/\B.cell? ⟨w.heap.size,6,none⟩=some (h1 c)/\B.cell? ⟨w.heap.size,7,none⟩=some (.float .f64 K)/\B.cell? ⟨w.heap.size+1,0,none⟩=some (.slice bL cF bR)/\B.cell? ⟨w.heap.size+1,1,none⟩=some (.slice U m1 aM)/\B.cell? ⟨w.heap.size+1,2,none⟩=some (.slice aV bl bi)) (go_keep)
  (first
   |(refine oV rfl (.tmp 26) (.tmp 35) 56 56 rfl 45 underlying56 QA ⟨gk,al,none⟩ L (N-D) L bp g D rfl rfl (zs.map (Value.float .f64)) 45 (ak.o _ C) (a9.map (Value.float .f64)) (d.o a9 y2) (tr y2 y3) (Y.o a9 y2) (ad.o a9) ?_;intro bA cX bW;obtain⟨bF,bB,bG,b3,cu,aa,bn,bM,aL,aR,aJ⟩:=HQ.o g (g+1) bA (Kept.trans (C.mono (lo':=g) (hi':=g+1) λb _ c=>by omega) bW) (.inr ⟨yad,yad⟩))
   |(go_at_call 162;refine yaj (HE.o _ P) ?_;rintro e aU ⟨u,rfl,cA,aZ⟩;have C:=Kept.trans P aZ;obtain⟨gk,al,bp,a9,rfl,y2,y3,y4,b5⟩:=Cn.pos cA L Q.o ci;obtain⟨bq,aq,aT,b8,bT,F,aK,ax,aC,I,ai⟩:=HQ.o 0 0 aU C (.inl yad))
   |(go_at_call 34;refine yaj (bf.o _) ?_;rintro e am ⟨rfl,av⟩;have P:=Kept.trans (eH 0 0 wr 1) av;obtain⟨aY,ar,aW,bJ,cB,cy,cI,cP,aI,ah,aF⟩:=HQ.o 0 0 am P (.inl yad)))
 all_goals
  have R:V (FR bA g (splice zs D a9)):=by
   show _=_
   rw[<-uY]
   exact cX.o
  have R2:V _:=Kept.trans (bQ.o.mono (lo':=g) (hi':=g+1) λb _ c=>by omega) (Kept.trans (C.mono (lo':=g) (hi':=g+1) λb _ c=>by omega) bW)
  go_end0
  exact⟨rfl,⟨a9,R.o,i1 cH.o b5,y4⟩,R2.o⟩):Zp:=h
open cU in
theorem ID(w g N zs)(b0:FR w g zs)(a5:zs.length=N)(bI:N<=50000)(X:∀z∈zs,z<18446744073709551616)(bD m cb op a b c K)(aG:K<18446744073709551616)(D L n G)(ag:n<=3)(ci:1<=L)(H:D+L<=N)(r t)
  (br:G<w.heap.size) (a2:∀q,q<n->AtP w G (q*2) ⟨(r q:Int),(t q:Int)⟩) (S:∀q,q<n->1<=t q/\r q+t q<=N) (ab:(jN op (L:Int) c K ((opS zs r t n).getD 0 []) ((opS zs r t n).getD 1 []) ((opS zs r t n).getD 2 [])).length=L):
  Calls prog 160 #[.agg #[h1 D,h1 L,h1 op,h1 L,h1 a,h1 b,h1 c,.float .f64 K,h0 G n 3],h0 g N N,.slice bD m cb] w λe B=>e=.returned (.tuple #[])/\(∃a9,FR B g (splice zs D a9)/\fS a9 (jN op (L:Int) c K ((opS zs r t n).getD 0 []) ((opS zs r t n).getD 1 []) ((opS zs r t n).getD 2 []))/\(∀x∈a9,x<18446744073709551616))/\Kept g (g+1) w B:=by
 have an:=eA 0 0 w (EL (D:Int) (L:Int) op a b c K (h0 G n 3));have av:=eA 0 0 (w.alloc (EL (D:Int) (L:Int) op a b c K (h0 G n 3))) (.cells #[.slice none 0 0,.slice none 0 0,.slice none 0 0] 206);have cW:(w.alloc (EL (D:Int) (L:Int) op a b c K (h0 G n 3))).heap.size=w.heap.size+1:=by simp
 have be:=DX (w.alloc (EL (D:Int) (L:Int) op a b c K (h0 G n 3)));rw[cW]at be;have bO:V (LV _ (w.heap.size+1) 3 3 (opS zs r t 0)):=be;have T:V _:=(EM w (D:Int) (L:Int) op a b c K (h0 G n 3)).keep av yaa;have HK:V _:=an.trans av;have bv:V (G<w.heap.size/\g<w.heap.size):=⟨br,b0.lt⟩
 have aD:V (FR w g zs):=b0;have au:V _:=a2;have y:V _:=S;have bE:V _:=X;have Q:V _:=ab;clear an av cW be b0 a2 S X ab br;obtain⟨_,aP,ay,aB,bz,a0,cf,b6,ae,ao⟩:=T.o;go_enter func160,ntmps160;go_wp2_with fail;clear aP ay aB bz a0 cf b6 ae ao;generalize (w.alloc (EL (D:Int) (L:Int) op a b c K (h0 G n 3))).alloc (.cells #[.slice none 0 0,.slice none 0 0,.slice none 0 0] 206)=aH at bO T HK⊢;go_loopw [12] (λi W=>∃q:Nat,q<=n/\i=h1 q/\V (LV W (w.heap.size+1) 3 3 (opS zs r t q))/\V (KBr W w.heap.size (D:Int) (L:Int) op a b c K (h0 G n 3))/\V (Kept 0 0 w W)) (λi _=>n-(intOf i).toNat)
 case atStart=>grind
 case round=>
  obtain⟨q,aA,rfl,be,a7,J⟩:=hrel;clear bO T HK;by_cases hlt:q<n
  ·have bw:=(au.o q hlt).keep bv.o.1 J.o yaa;have Z:=y.o q hlt;have cw:V ((opS zs r t q).set q (seg zs (r q) (t q))=opS zs r t (q+1)):=LW zs r t xaa;have aw:V (∀B,Kept 0 0 wr B->Cl B (.slice (some ⟨g,r q,none⟩) (t q) (N-r q)) (seg zs (r q) (t q))):=λB k=>FR.sg (FR.keep (w:=w) (g:=g) (xs:=zs) aD.o (Kept.trans J.o k) yaa) bE.o xaa xaa;generalize r q=o at bw Z cw aw;generalize t q=mm at bw Z cw aw;obtain⟨bR,aM⟩:=bw;have bj:=eA 0 0 wr (Spn.mk (o:Int) (mm:Int)).box;have bf:V (∀w,Calls prog 34 #[(Spn.mk (o:Int) (mm:Int)).agg,h0 g N N] w λe B=>e=.returned (.slice (some ⟨g,o,none⟩) mm (N-o))/\Kept 0 0 w B):=λw=>pB w g N N o mm Z.1 Z.2 xaa;have O:q<3:=xaa;go_wp2_with fail;refine yaj (bf.o _) ?_;rintro e am ⟨rfl,av⟩;have aj:=bj.trans av;have bu:=be.o.keep aj;obtain⟨bL,cF,c0,cj,_⟩:=bu.at_ q O;have cx:=bu.free q;have a6:=aw.o _ aj
   have R1:V (LV (am.setCell ⟨w.heap.size+1,q,none⟩ (.slice (some ⟨g,o,none⟩) mm (N-o))) (w.heap.size+1) 3 3 (opS zs r t (q+1))):=by
    have:=be.o.put (j:=q) O rfl aj a6;rw[cw.o]at this;exact this
   have aX:Kept (w.heap.size+1) (w.heap.size+2) am (am.setCell ⟨w.heap.size+1,q,none⟩ (.slice (some ⟨g,o,none⟩) mm (N-o))):=eU _ _ _ yac;have R2:V _:=(a7.o.keep aj yaa).keep aX (.inl xaa);have R3:V _:=(Kept.trans J.o aj).new aX xaa;clear aj bu a6 aX be a7 J av bj bR aM aw;go_wp2;go_roundw;exact⟨q+1,by omega,by go_num,R1,R2,R3⟩;simp[intOf];omega
  obtain rfl:q=n:=xaa;obtain⟨bL,cF,bR,c0,cj⟩:=be.o.at_ 0 xaa;obtain⟨U,m1,aM,c1,af⟩:=be.o.at_ 1 xaa;obtain⟨aV,bl,bi,c2,bg⟩:=be.o.at_ 2 xaa;have HE:V (∀B,Kept 0 0 wr B->Calls prog 162 #[lK op (L:Int) a b c K,.slice bL cF bR,.slice U m1 aM,.slice aV bl bi] B λe cJ=>∃u,e=.returned u/\Cn cJ B.heap.size u (jN op (L:Int) c K ((opS zs r t q).getD 0 []) ((opS zs r t q).getD 1 []) ((opS zs r t q).getD 2 []))/\Kept 0 0 B cJ):=λB k=>zQ B ⟨op,(L:Int),a,b,c,K⟩ aG _ _ _ _ _ _ ((cj xaa).keep k) ((af xaa).keep k) ((bg xaa).keep k) (nG (yH bE.o _ _));have bC:=bv.o.2;have f:w.heap.size+1<wr.heap.size:=be.o.lt;obtain⟨_,aP,ay,aB,bz,a0,cf,b6,ae,_⟩:=a7.o
  have HQ:V (∀l h B,Kept l h wr B->(h<=l\/(g<=l/\h<=g+1))->B.cell? ⟨w.heap.size,0,none⟩=some (h1 D)/\B.cell? ⟨w.heap.size,1,none⟩=some (h1 L)/\B.cell? ⟨w.heap.size,2,none⟩=some (h1 op)/\B.cell? ⟨w.heap.size,3,none⟩=some (h1 L)/\B.cell? ⟨w.heap.size,4,none⟩=some (h1 a)/\B.cell? ⟨w.heap.size,5,none⟩=some (h1 b)/\B.cell? ⟨w.heap.size,6,none⟩=some (h1 c)/\B.cell? ⟨w.heap.size,7,none⟩=some (.float .f64 K)/\B.cell? ⟨w.heap.size+1,0,none⟩=some (.slice bL cF bR)/\B.cell? ⟨w.heap.size+1,1,none⟩=some (.slice U m1 aM)/\B.cell? ⟨w.heap.size+1,2,none⟩=some (.slice aV bl bi)):=λl h B k aO=>by
   have e:∀p o,p<wr.heap.size->p≠g->B.cell? ⟨p,o,none⟩=wr.cell? ⟨p,o,none⟩:=λp o aQ bc=>k.cell (p:=⟨p,o,none⟩) aQ (by show ¬(l<=p/\p<h);omega)
   exact⟨by rw[e _ _ xaa xaa];exact aP,by rw[e _ _ xaa xaa];exact ay,by rw[e _ _ xaa xaa];exact aB,by rw[e _ _ xaa xaa];exact bz,by rw[e _ _ xaa xaa];exact a0,by rw[e _ _ xaa xaa];exact cf,by rw[e _ _ xaa xaa];exact b6,by rw[e _ _ xaa xaa];exact ae,by rw[e _ _ xaa xaa];exact c0,by rw[e _ _ xaa xaa];exact c1,by rw[e _ _ xaa xaa];exact c2⟩
  exact qda
theorem SS.b(f:SS w a n xss):SSb w w.heap.size a n xss:=⟨f.len,yad,f.at_⟩
structure Ar(xss:List (List Nat))(ss:List Ste)(N k:Nat)(zs:List Nat):Prop where
 len:zs.length=N
 lt:∀z∈zs,z<18446744073709551616
 at_:∀c:Nat,c<N->fb (zs.getD c 0)=fb (iO ss (gl xss ss k) k (c:Nat))
theorem Ar.start(xss ss N):Ar xss ss N 0 (List.replicate N 0):=
 ⟨by simp,λz a5=>by grind,λc al=>by
  rw[yai,List.getElem?_replicate,h7 al];rfl⟩
theorem EN(h:∀z∈zs,z<18446744073709551616)(h':∀z∈a9,z<18446744073709551616):∀z∈splice zs D a9,z<18446744073709551616:=λz a5=>by
 unfold splice at a5
 grind
theorem Ar.step(f:Ar xss ss N k zs){L:Nat}(aO:(ss.getD k Ste.zero).dst=D)(ai:(ss.getD k Ste.zero).len=L)(ao:D+L<=N)(O:a9.length=L)(X:∀z∈a9,z<18446744073709551616)(aw:fS a9 (doM xss ss (gl xss ss k) k (ss.getD k Ste.zero))):Ar xss ss N (k+1) (splice zs D a9):=by
 refine⟨by rw[length_splice _ _ _ (by rw[O,f.len];exact ao)];exact f.len,EN f.lt X,λc al=>?_⟩;rw[EJ (by rw[O,f.len];exact ao),BT,aO,ai,O];by_cases h:D<=c/\c<D+L
 ·grind[gD]
 rw[h6 h,h6 xaa];exact f.at_ c al
theorem Ar.sg(f:Ar xss ss N k zs)(h:o+m<=N):fS (seg zs o m) (i7 ss (gl xss ss k) k (o:Int) (m:Int)):=by
 refine pd (by rw[tI (i1 f.len h),lh];omega) λj hj=>?_;rw[tI (i1 f.len h)]at hj;rw[BX hj,uU xaa,f.at_ _ xaa];congr 2
theorem EO(h:iA ins ss (N:Int) k=true):fA ins (ss.getD k Ste.zero)=true/\(∃D L:Nat,(ss.getD k Ste.zero).dst=D/\(ss.getD k Ste.zero).len=L/\1<=L/\L<=1000/\D+L<=N)/\∀q,q<cnt (ss.getD k Ste.zero).op->∃o m:Nat,(eY (ss.getD k Ste.zero)).getD q Spn.zero=⟨(o:Int),(m:Int)⟩/\1<=m/\o+m<=N:=by
 unfold iA at h;generalize ss.getD k _=s at h⊢;simp only[Bool.and_eq_true]at h;obtain⟨F,h2,h3⟩:=h;have ai:=jV F;have X:=of_decide_eq_true h2;refine⟨F,⟨s.dst.toNat,s.len.toNat,by omega,by omega,by omega,by omega,by omega⟩,λq aA=>?_⟩;have u:q<(eY s).length:=by rw[lV];exact aA
 have e:(eY s).getD q Spn.zero=(eY s)[q]:=by rw[yai,yam u];rfl
 rw[e];have ao:=List.getElem_mem u;have aQ:=List.all_eq_true.1 h3 _ ao;have bQ:=qd F ao;unfold jB at aQ;rw[Bool.and_eq_true]at aQ;have ho:=kX aQ.1;generalize (eY s)[q]=p at bQ ho⊢;obtain⟨off,len⟩:=p;simp only at bQ ho;exact⟨off.toNat,len.toNat,by grind,by omega,by omega⟩
theorem BY(zs r t n){i}(hi:i<3):(opS zs r t n).getD i []=if i<n then seg zs (r i) (t i) else[]:=by
 rcases (by omega:i=0\/i=1\/i=2) with rfl|rfl|rfl<;>rfl
theorem IE{rs}(ak:s.op≠0):doM xss ss rs n s=jN s.op s.len s.c s.k (if 0<cnt s.op then i7 ss rs n (lP s 0) (mN s 0) else[]) (if 1<cnt s.op then i7 ss rs n (lP s 1) (mN s 1) else[]) (if 2<cnt s.op then i7 ss rs n (lP s 2) (mN s 2) else[]):=by
 unfold doM;rw[h6 ak];rfl
theorem uZ{p}[Decidable p]{ys}(h:p->fS xs ys):fS (if p then xs else[]) (if p then ys else[]):=by
 split
 ·grind
 rfl
theorem EP(f:Ar xss ss N k zs)(aF:jd (gl xss ss k))(ak:s.op≠0)(r t)(S:∀q,q<cnt s.op->lP s q=(r q:Nat)/\mN s q=(t q:Nat)/\r q+t q<=N):
  fS (jN s.op s.len s.c s.k ((opS zs r t (cnt s.op)).getD 0 []) ((opS zs r t (cnt s.op)).getD 1 []) ((opS zs r t (cnt s.op)).getD 2 [])) (doM xss ss (gl xss ss k) k s):=by
 rw[IE ak,BY _ _ _ _ xaa,BY _ _ _ _ xaa,BY _ _ _ _ xaa]
 have Y:∀q,q<cnt _->fS _ (i7 _ _ k (lP s q) (mN s q)):=λq aA=>by
  obtain⟨af,bg,ah⟩:=S q aA
  rw[af,bg]
  exact f.sg ah
 refine nF (uZ (Y 0)) (uZ (Y 1)) (uZ (Y 2)) (nG (yH f.lt _ _)) (nG (mw aF _ _ _))
theorem IF(aA:q<cnt s.op)(h:(eY s).getD q Spn.zero=⟨(o:Int),(m:Int)⟩):lP s q=o/\mN s q=m:=by
 obtain⟨p,F,h2,h3⟩:=qg aA;simp_all
theorem ve(h:fA ins s=true)(ak:s.op=0):∃j:Nat,s.a=j/\j<ins.length/\ins.getD j 0=s.len:=by
 unfold fA at h;rw[h7 ak]at h;simp only[Bool.and_eq_true]at h;have az:=of_decide_eq_true h.2.1;grind
theorem IG(hi:inB ins xss=true)(hj:j<ins.length):((xss.getD j []).length:Int)=ins.getD j 0:=by
 unfold inB at hi;grind
theorem QB(w)(g N:Nat)(zs)(b0:FR w g zs)(bI:N<=50000)(b m cb ins xss ss k)(a2:SSb w g b m xss)(ao:m=ins.length)(bH:jd xss)(hi:inB ins xss=true)(hst:iA ins ss (N:Int) k=true)(f:Ar xss ss N k zs)(aF:jd (gl xss ss k))(aG:(ss.getD k Ste.zero).k<18446744073709551616)(v)
  (aN:((ss.getD k Ste.zero).op=0/\v=mH (ss.getD k Ste.zero))\/∃G,v=qT (ss.getD k Ste.zero) G (cnt (ss.getD k Ste.zero).op)/\(ss.getD k Ste.zero).op≠0/\SB w G (cnt (ss.getD k Ste.zero).op) (eY (ss.getD k Ste.zero))):
  Calls prog (if (ss.getD k Ste.zero).op=0 then 158 else 160) #[v,h0 g N N,.slice b m cb] w λe B=>e=.returned (.tuple #[])/\(∃aS,FR B g aS/\Ar xss ss N (k+1) aS)/\Kept g (g+1) w B:=by
 obtain⟨ba,⟨D,L,aO,ai,ci,cz,H⟩,S⟩:=EO hst;have y:∀{a9:List _},a9.length=L->(∀z∈a9,z<18446744073709551616)->fS a9 _->Ar _ _ N _ _:=λF h2 h3=>f.step aO ai H F h2 h3;have aV:=C3 (ss:=ss) (rs:=gl xss ss k) (n:=k) hi ba;rcases aN with⟨ak,rfl⟩|⟨G,rfl,ak,a7⟩
 ·rw[h7 ak];obtain⟨j,az,hj,ae⟩:=ve ba ak;have ce:=IG hi hj;rcases a2.at_ with z|⟨aa,aZ,rfl,aJ,y2⟩
  ·omega
  obtain⟨bz,aK,c1,c2,c3⟩:=y2 j xaa;have u:(xss.getD j []).length=L:=xaa;rw[u]at c1 c3;rcases c3.at_ with z|⟨Q,cV,rfl,_,bd,_,bC⟩
  ·omega
  have e:mH (ss.getD k Ste.zero)=.agg #[h1 D,h1 L,h1 j]:=by grind
  rw[e];refine(EK w g N _ b0 f.len bI _ _ m _ aJ j D L _ _ _ _ u xaa c1 bd bC ci H).mono ?_;rintro e B ⟨rfl,F,h2⟩;refine⟨rfl,⟨_,F,y u (bH j) ?_⟩,h2⟩;unfold doM;rw[h7 ak,az,Int.toNat_natCast];rfl
 rw[h6 ak]
 have aQ:∃r t:Nat->Nat,∀q,q<cnt (ss.getD k Ste.zero).op->(eY (ss.getD k Ste.zero)).getD q Spn.zero=⟨(r q:Int),(t q:Int)⟩/\1<=t q/\r q+t q<=N:=by
  have C:∀q,∃d:Nat×Nat,q<cnt _->(eY _).getD q _=⟨(d.1:Int),(d.2:Int)⟩/\1<=d.2/\d.1+d.2<=N:=λq=>by
   by_cases aA:q<cnt (ss.getD k Ste.zero).op
   ·obtain⟨o,mm,F,h2,h3⟩:=S q aA
    exact⟨(o,mm),λ_=>⟨F,h2,h3⟩⟩
   ·exact⟨(0,0),λc=>absurd c aA⟩
  obtain⟨br,x⟩:=Classical.axiomOfChoice C;exact⟨_,_,λq aA=>x q aA⟩
 obtain⟨r,t,aR⟩:=aQ
 have O:=EP f aF ak _ _ (λq aA=>by
  obtain⟨F,h2,h3⟩:=aR q aA
  obtain⟨h4,bK⟩:=IF aA F
  exact⟨h4,bK,h3⟩)
 have ab:=jp O;generalize I:ss.getD k _=s at*;have e:qT s G (cnt s.op)=.agg #[h1 D,h1 L,h1 s.op,h1 L,h1 s.a,h1 s.b,h1 s.c,.float .f64 s.k,h0 G (cnt s.op) 3]:=by grind
 rw[e];rw[ai]at O ab;refine(ID w g N _ b0 f.len bI f.lt b m _ _ _ _ _ _ aG D L _ G (gK _) ci H _ _ a7.lt (λq aA=>by rw[<-(aR q aA).1];exact a7.at_ q aA) (λq aA=>(aR q aA).2) xaa).mono ?_;grind[mg,jp]
theorem AP(w a1 J a3 b Z c1 ae c2 ab c3 m cb aL ins ss a8)(f:CS w a1 Z J ae a3 ab ins ss a8)(h:iG ins ss a8 aL=false):
  Calls prog 9 #[iQ a1 Z c1 J ae c2 a3 ab c3 aL,.slice b m cb] w λe B=>e=.returned (.tuple #[.slice none 0 0,h1 0,h1 1])/\Kept 0 0 w B:=by
 have aG:=eA 0 0 w (iE a1 Z c1 J ae c2 a3 ab c3 aL);have HX:V _:=qY _ _ _ _ _ c1 _ c2 _ c3 aL _ _ _ (f.keep aG);rw[h]at HX;have HK:V _:=aG;clear aG h f;go_enter func9,ntmps9;go_wp2_with fail;refine yaj HX.o ?_;rintro e am ⟨rfl,av⟩;go_wp2;refine yaz (v:=.tuple #[.slice none 0 0,h1 0,h1 1]) (by simp[results,results9,go_sem]) rfl ⟨rfl,Kept.trans HK.o av⟩
theorem AQ{aL}(h:iG ins ss a8 aL=true):(ins.length<=20/\ss.length<=2000/\a8.length<=50/\0<=aL/\aL<=50000)/\(List.range ss.length).all (iA ins ss aL)=true/\a8.all (oe ss aL)=true:=by
 grind[iG,kV]
theorem vf(h:a8.all (oe ss (N:Int))=true)(hj:j<a8.length):∃o m:Nat,a8.getD j Spn.zero=⟨(o:Int),(m:Int)⟩/\1<=m/\m<=1000/\o+m<=N:=by
 have e:a8.getD j Spn.zero=a8[j]:=by simp_all
 rw[e];have aQ:=List.all_eq_true.1 h _ (List.getElem_mem hj);generalize a8[j]=p at aQ⊢;unfold oe at aQ;rw[Bool.and_eq_true]at aQ;have F:=of_decide_eq_true aQ.1;have h2:=kX aQ.2;obtain⟨off,len⟩:=p;simp only at F h2;exact⟨off.toNat,len.toNat,by grind,by omega,by omega,by omega⟩
theorem dG.qgn(h:Zp:=by
 obtain⟨bF,bB,bG,b3,cu,aa,bn,bM⟩:=bZ.o;simp only[Nat.zero_add]at bB bG b3 cu aa bn bM;clear aR bd bu bC y t ad H ap dv;go_wp2_with fail;clear bR aM bi aI r aC a7 bT bF bB bG b3 cu aa bn bM;have I:V (Kept g (g+1) bA (wr.alloc s.box)):=Kept.trans az.o (bj.mono λb _ c=>by omega);by_cases ak:s.op=0
 ·have cj:∀w:World,(method 317 96 (mH s) "loop.example/s08086/impl.carryOut").run prog w=.ok (158,mH s) w:=λ_=>by kernel_rfl
  refine yaj (wu (wr.alloc s.box) s ak) ?_;rintro e cn ⟨rfl,bY⟩;have K:V _:=Kept.trans I.o (bY.mono (lo':=g) (hi':=g+1) λb _ c=>by omega);have P:V _:=Q.o cn (bj.trans bY) (mH s) (.inl ⟨ak,rfl⟩);rw[h7 ak]at P;clear bY bj Q I;exact xec
 refine yaj (Ap (wr.alloc s.box) s ak) ?_;rintro e cn ⟨G,rfl,a2,_,bY⟩;have cj:∀w:World,(method 317 98 (qT s G (cnt s.op)) "loop.example/s08086/impl.carryOut").run prog w=.ok (160,qT s G (cnt s.op)) w:=λ_=>by kernel_rfl
 have K:V _:=Kept.trans I.o (bY.mono (lo':=g) (hi':=g+1) λb _ c=>by omega);have P:V _:=Q.o cn (bj.trans bY) (qT s G (cnt s.op)) (.inr ⟨G,rfl,ak,a2⟩);rw[h6 ak]at P;clear bY bj Q I a2;exact xec):Zp:=h
open dG in
theorem BZ(w a1 J a3 b Z c1 ae c2 ab c3 m cb aL ins ss a8 xss)(f:CS w a1 Z J ae a3 ab ins ss a8)(s:SS w b m xss)(X:jd xss)(h:iG ins ss a8 aL=true)(h2:inB ins xss=true):
  Calls prog 9 #[iQ a1 Z c1 J ae c2 a3 ab c3 aL,.slice b m cb] w λe B=>∃G be co z,e=.returned (.tuple #[h0 G ab ab,h1 ae,h1 0])/\w.heap.size<=G/\SP B G ab ab be co z/\z.length=ab/\(∀j,j<ab->fS (z.getD j []) ((pI xss ss a8).getD j []))/\Kept 0 0 w B:=by
 obtain⟨⟨b6,cf,b7,bH,bk⟩,hst,en⟩:=AQ h;have af:=f.i.len;have bg:=f.s.len;have ah:=f.o.len;rw[af]at b6;rw[bg]at cf hst;rw[ah]at b7;obtain⟨N,rfl⟩:=Int.eq_ofNat_of_zero_le bH;have cw:V _:=hst;have d0:V _:=en;have cW:V _:=qG f.s.lt;have HR:V _:=λk=>uV (ss:=ss) X (qG f.s.lt) k;have bc:V _:=X;have ch:V _:=h2
 have Y:V (m=ins.length):=by
  have:=h2;unfold inB at this;simp only[Bool.and_eq_true,decide_eq_true_eq,s.len]at this;exact this.1
 have aG:=eA 0 0 w (iE a1 Z c1 J ae c2 a3 ab c3 (N:Int));have HX:V _:=qY _ a1 J a3 Z c1 ae c2 ab c3 (N:Int) ins ss a8 (f.keep aG);rw[h]at HX;have T:V _:=iX w (.slice a1 Z c1) (.slice J ae c2) (.slice a3 ab c3) (h1 N);have aD:V _:=f.keep aG;have au:V _:=s.keep aG;have HK:V _:=aG;clear aG h f s hst en X;go_enter func9,ntmps9;go_wp2_with fail;generalize w.alloc (iE a1 Z c1 J ae c2 a3 ab c3 (N:Int))=aH at HX T aD au HK⊢;refine yaj HX.o ?_;rintro e am ⟨rfl,av⟩;obtain⟨_,aP,ay,aB,bz⟩:=C0.keep T.o av;have aX:V _:=DV am _ _ a1 b Z m c1 cb ins xss (CS.keep aD.o av).i (SS.keep au.o av) xaa;rw[h2]at aX;have bQ:V _:=av;clear av HX h2;go_wp2_with fail;clear aP ay aB bz;refine yaj aX.o ?_;rintro e aU ⟨rfl,aI⟩;have aZ:=Kept.trans bQ.o (aI.kept 0 0);have ao:=ry N aU xaa;have bj:=eA 0 0 aU (.cells (madeCells #[.float .f64 0] N) 45);have ca:V _:=T.o.keep aZ;have H:V (FR (aU.alloc (.cells (madeCells #[.float .f64 0] N) 45)) aU.heap.size (List.replicate N 0)):=FR.made aU N;have cG:=aD.o.keep aZ;have aV:V (TS (aU.alloc (.cells (madeCells #[.float .f64 0] N) 45)) 0 aU.heap.size J ae ss):=cG.s.keep bj yaa;have ag:V (PS (aU.alloc (.cells (madeCells #[.float .f64 0] N) 45)) 0 aU.heap.size a3 ab a8):=cG.o.keep bj yaa;have bE:V (SSb (aU.alloc (.cells (madeCells #[.float .f64 0] N) 45)) aU.heap.size b m xss):=(SS.b (au.o.keep aZ)).keep bj yab;have bv:V (w.heap.size<aU.heap.size):=ca.o.sz;obtain⟨_,aP,ay,aB,bz⟩:=ca.o;have an:V _:=ca.o.keep bj;obtain⟨_,bq,aq,aT,b8⟩:=an.o;have U:V _:=Kept.trans HK.o (Kept.trans aZ bj);have bW:V (aU.heap.size<(aU.alloc (.cells (madeCells #[.float .f64 0] N) 45)).heap.size):=by show _<_;simp
 clear aI aZ bj aX bQ T aD au cG HK ca;generalize bK:aU.heap.size=g at ao H aV ag bE bv bW;generalize aU.alloc (.cells (madeCells #[.float .f64 0] N) 45)=bA at ao H aV ag bE an U bW bq aq aT b8;clear bK;go_wp2_with fail;clear aP ay aB bz bq aq aT b8 ao;go_loopw [27] (λx W=>∃k:Nat,k<=ae/\x=h1 k/\V (∃zs,FR W g zs/\Ar xss ss N k zs)/\V (Kept g (g+1) bA W)) (λx _=>ae-(intOf x).toNat)
 case atStart=>exact⟨0,yae,rfl,⟨_,H.o,Ar.start xss ss N⟩,Kept.refl _ _ _⟩
 case round=>
  obtain⟨k,O,rfl,y,az⟩:=hrel;clear H;by_cases hlt:k<ae
  ·obtain⟨zs,t,ad⟩:=y.o;rcases (aV.o.keep az.o (.inl yad)).at_ with bP|⟨d,bL,bS,aR,bd,bu,bC⟩
   ·omega
   have bw:=bC k hlt;have aF:g<wr.heap.size:=yak bW.o az.o.size;have H:V (FR wr g zs):=t;have ap:V _:=ad;have dv:iA ins ss (N:Int) k=true:=List.all_eq_true.1 cw.o k (List.mem_range.2 hlt)
   have Q:V (∀B,Kept 0 0 wr B->∀v,(((ss.getD k Ste.zero).op=0/\v=mH (ss.getD k Ste.zero))\/∃G,v=qT (ss.getD k Ste.zero) G (cnt (ss.getD k Ste.zero).op)/\(ss.getD k Ste.zero).op≠0/\SB B G (cnt (ss.getD k Ste.zero).op) (eY (ss.getD k Ste.zero)))->Calls prog (if (ss.getD k Ste.zero).op=0 then 158 else 160) #[v,h0 g N N,.slice b m cb] B λe cJ=>e=.returned (.tuple #[])/\(∃aS,FR cJ g aS/\Ar xss ss N (k+1) aS)/\Kept g (g+1) B cJ):=λB q v aN=>
    QB B g N zs (FR.keep (w:=wr) (g:=g) (xs:=zs) H.o q yaa) xaa b m cb ins xss ss k ((bE.o.keep az.o (.inl yad)).keep q yab) Y.o bc.o ch.o dv ap.o (HR.o k) (cW.o k) v aN
   generalize ss.getD k Ste.zero=s at bw Q;exact qgm
  obtain⟨zs,t,ad⟩:=y.o;obtain rfl:k=ae:=xaa;obtain⟨bD,eL⟩:∃bD,bD=wr:=⟨_,rfl⟩
  subst eL;have H:V (FR bD g zs):=t;have ap:V _:=ad;have C:V _:=an.o.keepR az.o (.inl bv.o);have ao:=Od ab bD xaa;have aj:=eA 0 0 bD (.cells (madeCells #[.slice none 0 0] ab) 56);obtain⟨_,aP,ay,aB,bz⟩:=C.o;have aw:V _:=C.o.keep aj;obtain⟨_,bq,aq,aT,b8⟩:=aw.o;have aO:V _:=ag.o.keep az.o (.inl yad);have aK:V _:=SP.made bD ab id id (a8.map λp=>seg zs p.off.toNat p.len.toNat);have cp:V _:=aj;have ce:V (g<bD.heap.size/\w.heap.size<g):=⟨yak bW.o az.o.size,bv.o⟩
  have F:V (Kept 0 0 w bD):=U.o.new az.o (Nat.le_of_lt bv.o);have bb:V _:=C;clear y t ad aj az aV ag bE an U C;generalize bD.alloc (.cells (madeCells #[.slice none 0 0] ab) 56)=cn at ao aK cp aw bq aq aT b8;go_wp2_with fail;clear ao aP ay aB bz bq aq aT b8;go_loopw [44] (λi W=>∃j:Nat,j<=ab/\i=h1 j/\V (∃be co,SP W bD.heap.size ab j be co (a8.map λp=>seg zs p.off.toNat p.len.toNat))/\V (Kept 0 0 bD W)) (λi _=>ab-(intOf i).toNat)
  case atStart=>exact⟨0,yae,rfl,⟨id,id,aK.o⟩,cp⟩
  case round=>
   obtain⟨j,hj,rfl,hP,aG⟩:=hrel;clear aK cp aw;obtain⟨be,co,hP⟩:=hP.o;by_cases hlt:j<ab
   ·rcases (aO.o.keep aG.o yaa).at_ with bP|⟨d,bL,bS,aR,bd,bu,bC⟩
    ·omega
    have bw:=bC j hlt;obtain⟨o,mm,ho,aY,di,aA⟩:=vf d0.o (i1 ah hlt)
    have bp:(a8.map λp=>seg zs p.off.toNat p.len.toNat).getD j []=seg zs o mm:=by
     have e:a8.getD j Spn.zero=a8[j]'xaa:=by rw[yai,yam xaa];rfl
     rw[yai,List.getElem?_map,yam xaa];simp only[Option.map_some,Option.getD_some];rw[<-e,ho];simp only[Int.toNat_natCast]
    have cM:(seg zs o mm).length=mm:=tI (i1 ap.o.len aA);have ai:V (∀{B:World}{G c:Nat},Kept 0 0 wr B->FO B G _ _->wr.heap.size<=G->_<=c->_):=λq ho br al=>hP.step hlt q ho br al;rw[bp,cM]at ai;rw[ho]at bw;have c9:V (∀B,Kept 0 0 wr B->B.frozen? ⟨bD.heap.size,j,none⟩=false/\∃u,B.cell? ⟨bD.heap.size,j,none⟩=some u):=λB q=>⟨(hP.keep q).free j,(hP.keep q).rest j hlt⟩
    have bj:=eA 0 0 wr (Spn.mk (o:Int) (mm:Int)).box;have S:=kE wr (Spn.mk (o:Int) (mm:Int));obtain⟨bF,bB⟩:=S;rw[Nat.zero_add]at bB;have bf:V (∀w,Calls prog 34 #[(Spn.mk (o:Int) (mm:Int)).agg,h0 g N N] w λe B=>e=.returned (.slice (some ⟨g,o,none⟩) mm (N-o))/\Kept 0 0 w B):=λw=>pB w g N N o mm aY aA xaa
    have aW:V (∀B,Kept 0 0 wr B->Calls prog 33 #[.slice (some ⟨g,o,none⟩) mm (N-o)] B λe cJ=>∃G cap,e=.returned (h0 G mm cap)/\mm<=cap/\FO cJ G mm (seg zs o mm)/\B.heap.size<=G/\Kept 0 0 B cJ):=λB q=>by
     have ba:FR B g zs:=FR.keep (w:=bD) (g:=g) (xs:=zs) H.o (Kept.trans aG.o q) yaa
     exact P8 B g o mm (N-o) (seg zs o mm) aY xaa ba.lt cM (yH ap.o.lt o mm) (λi hi=>by rw[BX hi];exact ba.cell (o+i) (i3 ap.o.len))
    subst bS;obtain⟨bR,aM⟩:=bw;clear aR bd bu bC bp hP ho;generalize seg zs o mm=ys at ai aW;go_wp2_with fail;clear bR aM bF bB;refine yaj (bf.o _) ?_;rintro e cd ⟨rfl,a5⟩;have aJ:=bj.trans a5;go_wp2_with fail;refine yaj (aW.o _ aJ) ?_;rintro e cq ⟨G,cap,rfl,ar,a0,bJ,cl⟩;have aQ:=aJ.trans cl;have R1:V _:=ai.o aQ a0 (yao aJ.size bJ) ar;have R2:V _:=qD bD cq (Kept.trans aG.o aQ) bD.heap.size j (h0 G mm cap) yad;obtain⟨cx,u,a6⟩:=c9.o cq aQ;clear bf aW ai c9 a0 cl a5 bj aJ aQ aG;go_wp2;go_roundw;exact⟨j+1,by omega,by go_num,⟨_,_,R1.o⟩,R2⟩;simp[intOf];omega
   obtain rfl:j=ab:=xaa;have R1:V (Kept 0 0 w wr):=Kept.trans F.o aG.o
   have R2:V (∀i,i<j->fS ((a8.map λp=>seg zs p.off.toNat p.len.toNat).getD i []) ((pI xss ss a8).getD i [])):=λi hi=>by
    obtain⟨o,mm,ho,aY,di,aA⟩:=vf d0.o (i1 ah hi)
    have e:a8.getD i Spn.zero=a8[i]'xaa:=by rw[yai,yam xaa];rfl
    unfold pI
    rw[yai,List.getElem?_map,yai,List.getElem?_map,yam xaa]
    simp only[Option.map_some,Option.getD_some]
    rw[<-e,ho,bg]
    simp only[Int.toNat_natCast]
    exact ap.o.sg aA
   have R3:V _:=hP;obtain⟨_,aP,ay,aB,bz⟩:=bb.o.keep aG.o;clear hP aG;go_wp2_with fail;go_quiet (fail)
   go_wp2;go_ret3
   exact⟨bD.heap.size,be,co,_,rfl,ix ce.o,R3.o.keep (eH 0 0 _ _),by rw[List.length_map];exact ah,R2.o,Kept.trans R1.o (eH 0 0 _ _)⟩
theorem LY{xs ys}(ap:Bts xs)(bp:Bts ys):((strOfNums xs).toList==(strOfNums ys).toList)=(xs==ys):=by
 rw[Lib.strOfNums_toList,Lib.strOfNums_toList];rw[Bool.eq_iff_iff];simp only[beq_iff_eq];constructor
 ·intro h
  have Y:∀(zs:List _),Bts _->(zs.map λn=>UInt8.ofNat n.toNat).map (λb=>(b.toNat:Int))=zs:=λzs a5=>by
   rw[List.map_map]
   conv=>rhs;rw[<-List.map_id zs]
   apply List.map_congr_left
   intro z d
   have:=a5 z d
   simp only[Function.comp,id]
   rw[UInt8.toNat_ofNat']
   omega
  have h':(xs.map _)=(ys.map _):=h;grind
 grind
theorem Ni{xs}(f:YS w a n xs):(convert 22 9 (.slice a n c)).run prog w=.ok (.string (strOfNums xs)) w:=by
 have hb:prog.underlying 5=some (.int .u8):=by kernel_rfl
 have aw:prog.underlying 9=some .string:=by kernel_rfl
 rcases f.at_ with rfl|⟨g,off,rfl,_,h4⟩
 ·have:=List.length_eq_zero_iff.1 f.len;subst this;exact run_convert_bytes_zero w _ 5 underlying22 hb a c 9 aw
 exact run_convert_bytes_arg w _ 5 underlying22 hb g _ n c _ f.len h4 9 aw
theorem LZ(w a b n c m d xs ys)(f:YS w a n xs)(g:YS w b m ys):
  Calls prog 45 #[.slice a n c,.slice b m d] w λe B=>e=.returned (.bool (xs==ys))/\w=B:=by
 have F:=Ni (c:=c) f;have h2:=Ni (c:=d) g;have h3:=LY f.lt g.lt;have H3:V _:=h3;clear f g h3;go_enter func45,ntmps45;go_wp2;go_ret;exact⟨by rw[<-H3.o];rfl,rfl⟩
