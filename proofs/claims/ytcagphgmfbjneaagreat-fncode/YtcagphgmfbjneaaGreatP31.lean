import Derived.Test.YtcagphgmfbjneaaGreatP30
namespace Go.Proofs.Z
variable{Zp:Prop}
open Tryz
set_option maxRecDepth 1000000
set_option maxHeartbeats 0
open Go.RowKit Flt
attribute[local go_sem] eE eD eC
variable{ins Q:List Int}{am w bn H:World}{ss:List Ste}{a8:List Spn}{k i q n A g cap:Nat}{aL:Int}{s:Ste}
theorem written(w)(p:Spn):
  Calls prog 157 #[p.agg] w λe B=>e=.returned p.agg/\Kept 0 0 w B:=by
 go_enter func157,ntmps157;go_wp2;refine yaz (v:=p.agg) (by simp[results,results157,go_sem]) rfl ⟨rfl,?_⟩;exact(eA 0 0 w _).trans (eA 0 0 _ _)
theorem Ib(w s):
  Calls prog 159 #[mH s] w λe B=>e=.returned (.slice none 0 0)/\Kept 0 0 w B:=by
 go_enter func159,ntmps159;go_wp2;go_ret;exact⟨rfl,eA 0 0 w _⟩
theorem Lp(w s G n):
  Calls prog 161 #[qT s G n] w λe B=>e=.returned (h0 G n 3)/\Kept 0 0 w B:=by
 go_enter func161,ntmps161;go_wp2;go_ret;exact⟨rfl,eA 0 0 w _⟩
def jc(ss:List Ste)(i:Nat)(s:Ste)(x:Int)(k:Nat):Bool:=fZ ss i (k:Nat)||decide (s.dst<=(k:Int)/\(k:Int)<x)
theorem su(ss i s k):fZ ss i (k:Nat)=jc ss i s s.dst k:=by
 unfold jc;rw[yay xaa,Bool.or_false]
theorem uN(ss i s)(x k:Nat)(h:s.dst<=(x:Int)):(if k=x then true else jc ss i s (x:Int) k)=jc ss i s ((x:Int)+1) k:=by
 unfold jc;by_cases e:k=x
 ·rw[h7 e,decide_eq_true xaa,Bool.or_true]
 rw[h6 e];congr 1;rw[Bool.eq_iff_iff];simp only[decide_eq_true_eq];omega
def nK(ss:List Ste)(i:Nat)(n:Nat)(s:Ste):Bool:=kM s.dst s.len n&&(eY s).all (jB ss i n s)
theorem Lq(aA:q<cnt s.op)(h:jB ss i n s ((eY s).getD q Spn.zero)=false):nK ss i n s=false:=by
 unfold nK;have u:q<(eY s).length:=by rw[lV];exact aA
 have:(eY s).all (jB ss i n s)=false:=by
  rw[List.all_eq_false];rw[yai,yam u]at h;exact⟨(eY s)[q],List.getElem_mem _,by simpa using h⟩
 rw[this,Bool.and_false]
theorem Ic(aA:q<cnt s.op)(be:((eY s).take q).all (jB ss i n s)=true)(h:jB ss i n s ((eY s).getD q Spn.zero)=true):((eY s).take (q+1)).all (jB ss i n s)=true:=by
 have u:q<(eY s).length:=by rw[lV];exact aA
 rw[yau u,List.all_append,be];rw[yai,yam u]at h;simpa using h
theorem aD.qay(h:Zp:=by
 simp only;cases J:kM s.dst s.len n
 ·exact xem
 have X:=of_decide_eq_true J;obtain⟨aP,ay⟩:=T.o;rw[Nat.zero_add]at ay;go_wp2_with (first|(go_at_call 159;refine(Ib _ s).mono ?_;rintro e bA ⟨rfl,bW⟩)|fail);replace HK:V _:=Kept.trans HK.o bW;replace T:V _:=AtP.keep T.o hP bW yaa;replace hP:=yak hP bW.size;clear bW aP ay;refine wp_loop_rounds 1 ?_;rw[rounds_succ]
 have R:V (nK ss i n s=true):=by
  show _=_;unfold nK eY;rw[J,ak];rfl
 have O:=hP;obtain⟨aP,ay⟩:=T.o;rw[Nat.zero_add]at ay;have Y:V _:=BL.keep aD.o HK.o yaa;have ah:V _:=HK;have d:V _:=T;clear HK T aD;exact xai):Zp:=h
open aD in
theorem Ew(w g n cap ss i s)(ag:n<=50000)(_hcap:n<=cap)(f:BL w g n (λk=>fZ ss i (k:Nat)))(ci:1<=s.len)(cz:s.len<=1000)(S:∀q,q<cnt s.op->1<=((eY s).getD q Spn.zero).len/\((eY s).getD q Spn.zero).len<=1000)(ak:s.op=0):
  Calls prog 28 #[h0 g n cap,.iface 96 (mH s)] w λe B=>e=.returned (.bool (nK ss i n s))/\Kept g (g+1) w B/\(nK ss i n s=true->BL B g n (jc ss i s (s.dst+s.len))):=by
 have HM1:∀w:World,(method 317 96 (mH s) "loop.example/s08086/impl.written").run prog w=.ok (157,(Spn.mk s.dst s.len).agg) w:=λ_=>by kernel_rfl
 have bV:∀w:World,(method 317 96 (mH s) "loop.example/s08086/impl.taken").run prog w=.ok (159,(mH s)) w:=λ_=>by kernel_rfl
 have aD:V _:=f;have y:V _:=S;have bv:V _:=f.lt;clear f S;exact qax
theorem aE.qay(h:Zp:=by
 simp only;cases J:kM s.dst s.len n
 ·exact xem
 have X:=of_decide_eq_true J;obtain⟨aP,ay⟩:=T.o;rw[Nat.zero_add]at ay;go_wp2_with (first|(go_at_call 161;refine(Lp _ s G (cnt s.op)).mono ?_;rintro e bA ⟨rfl,bW⟩)|fail);replace HK:V _:=Kept.trans HK.o bW;replace T:V _:=AtP.keep T.o hP bW yaa;replace hP:=yak hP bW.size;clear bW aP ay;go_loopw [19] (λx W=>∃q:Nat,q<=cnt s.op/\x=h1 q/\V (((eY s).take q).all (jB ss i n s)=true)/\V (Kept 0 0 bA W)) (λx _=>cnt s.op-(intOf x).toNat)
 case atStart=>exact⟨0,yae,rfl,rfl,Kept.refl _ _ _⟩
 case round=>
  obtain⟨q,aA,rfl,C,az⟩:=hrel;have al:V _:=Kept.trans HK.o az.o;have N:V _:=AtP.keep T.o hP az.o yaa;by_cases F:q<cnt s.op
  ·have bw:=(au.o.keep al.o yaa).at_ q F;have cM:=y.o q F;have aj:V (jB ss i n s ((eY s).getD q Spn.zero)=false->_):=λh=>Lq F h;have ak:V _:=λh=>Ic F C.o h;generalize (eY s).getD q Spn.zero=p at bw cM aj ak;obtain⟨bR,aM⟩:=bw;have bj:=eA 0 0 wr p.box;have Z:V _:=kE wr p;have aK:wr.heap.size<(wr.alloc p.box).heap.size:=by simp
   have cA:=gK s.op;have O:=yak hP az.o.size;go_wp2_with fail;clear bR aM;have ab:V _:=Kept.trans al.o bj;have t:V _:=AtP.keep N.o O bj yaa;have aI:V _:=Kept.trans az.o bj;generalize ad:wr.heap.size=P2 at Z aK O⊢;generalize wr.alloc p.box=bD at Z aK ab t aI bj⊢;clear ad bj al N az;refine yaj (Qj bD g n cap ss i ag aF (BL.keep aD.o ab.o yaa) p cM.1 cM.2) ?_;rintro e cn ⟨rfl,bY⟩;have aC:V _:=Kept.trans ab.o bY;have aw:V _:=AtP.keep t.o xaa bY yaa;have aO:V _:=AtP.keep Z.o aK bY yaa;have K:V _:=Kept.trans aI.o bY;clear bY ab t Z aI;simp only;cases U:jA ss i n p.off p.len
   ·have R:V _:=aj.o (by unfold jB;rw[U];rfl);have R2:V _:=(aC.o.mono (lo':=g) (hi':=g+1) λb _ c=>by omega)
    exact xeb
   have aN:=kX U;obtain⟨bF,bB⟩:=aw.o;obtain⟨bh,aJ⟩:=aO.o;rw[Nat.zero_add]at bB aJ;have aG:V _:=Qk cn (Spn.mk s.dst s.len) p (by show -1000000<=s.dst+s.len/\s.dst+s.len<=1000000;omega) xaa;have eu:jB ss i n s p=!decide (s.dst<p.off+p.len/\p.off<s.dst+s.len):=by unfold jB Hm;rw[U];rfl
   rw[eu]at aj ak;simp only at aG;go_wp2_with fail;refine yaj aG.o ?_;rintro e cd ⟨rfl,a5⟩;have aQ:V _:=Kept.trans aC.o a5;have ap:V _:=Kept.trans K.o a5;clear a5 aC K aw aO bF bB bh aJ aG eu U;simp only;cases bQ:decide (s.dst<p.off+p.len/\p.off<s.dst+s.len)
   ·have R:V _:=ak.o (i4 bQ);go_wp2;go_roundw;exact⟨q+1,by omega,by go_num,R,ap⟩;simp[intOf];omega
   have R:V _:=aj.o (i4 bQ);have R2:V _:=(aQ.o.mono (lo':=g) (hi':=g+1) λb _ c=>by omega)
   exact xeb
  have R:V (nK ss i n s=true):=by
   show _=_;have:=C.o;rw[yap (by rw[lV];omega)]at this;unfold nK;rw[J,this];rfl
  have O:=yak hP az.o.size;obtain⟨aP,ay⟩:=N.o;rw[Nat.zero_add]at ay;have Y:V _:=BL.keep aD.o al.o yaa;have ah:V _:=al;have d:V _:=N;clear C az N al HK T aD;exact xai):Zp:=h
open aE in
theorem Id(w g n cap ss i s)(ag:n<=50000)(aF:n<=cap)(f:BL w g n (λk=>fZ ss i (k:Nat)))(ci:1<=s.len)(cz:s.len<=1000)(S:∀q,q<cnt s.op->1<=((eY s).getD q Spn.zero).len/\((eY s).getD q Spn.zero).len<=1000)(G)(a2:SB w G (cnt s.op) (eY s))(_hG:G≠g):
  Calls prog 28 #[h0 g n cap,.iface 98 (qT s G (cnt s.op))] w λe B=>e=.returned (.bool (nK ss i n s))/\Kept g (g+1) w B/\(nK ss i n s=true->BL B g n (jc ss i s (s.dst+s.len))):=by
 have HM1:∀w:World,(method 317 98 (qT s G (cnt s.op)) "loop.example/s08086/impl.written").run prog w=.ok (157,(Spn.mk s.dst s.len).agg) w:=λ_=>by kernel_rfl
 have bV:∀w:World,(method 317 98 (qT s G (cnt s.op)) "loop.example/s08086/impl.taken").run prog w=.ok (161,(qT s G (cnt s.op))) w:=λ_=>by kernel_rfl
 have aD:V _:=f;have y:V _:=S;have au:V _:=a2;have bv:V _:=f.lt;clear f S a2;exact qax
theorem cG.qcr(h:Zp:=by
 clear f aG;by_cases b5:Z<=20
 ·have U:decide (20<(Z:Int))=false:=yay xaa;by_cases a0:ae<=2000
  ·have aV:decide (2000<(ae:Int))=false:=yay xaa;by_cases b9:ab<=50
   ·have aa:decide (50<(ab:Int))=false:=yay xaa
    have HQ:V (kV ins ae ab aL=(ins.all lenB&&decide (0<=aL/\aL<=50000))):=by
     show _=_;unfold kV;rw[HL.o,decide_eq_true b5,decide_eq_true a0,decide_eq_true b9];rfl
    go_enter func26,ntmps26;go_wp2_with fail;generalize w.alloc _=aH at aD T HK⊢;go_loop [24] (λi=>∃k:Nat,k<=Z/\i=h1 k/\V ((ins.take k).all lenB=true)) (λi=>Z-(intOf i).toNat)
    case atStart=>exact⟨0,yae,rfl,rfl⟩
    case round=>
     obtain⟨k,O,rfl,be⟩:=hrel;by_cases hlt:k<Z
     ·rcases aD.o.at_ with bP|⟨d,bL,bS,aR,bd,bu,bC⟩
      ·omega
      have c:=bC k hlt;subst bS;clear aR bd bu bC;cases ap:lenB (ins.getD k 0)
      ·have R:V (kV ins ae ab aL=false):=by
        show _=_;rw[HQ.o,ue (i1 HL.o hlt) ap];rfl
       have b8:V _:=gX (ins.getD k 0) aH;rw[ap]at b8;generalize ins.getD k 0=y at c b8;clear ap be;go_wp2_with fail;refine yaj b8.o ?_;rintro e am ⟨rfl,rfl⟩;go_wp2;go_ret;exact⟨i4 R.o,HK.o⟩
      have R:V _:=rD (i1 HL.o hlt) be.o ap;have b8:V _:=gX (ins.getD k 0) aH;rw[ap]at b8;generalize ins.getD k 0=y at c b8;clear ap be;go_wp2_with fail;refine yaj b8.o ?_;rintro e am ⟨rfl,rfl⟩;go_wp2;grind[intOf]
     have bO:V (kV ins ae ab aL=decide (0<=aL/\aL<=50000)):=by
      show _=_;have:=be.o;rw[yap (i3 HL.o)]at this;rw[HQ.o,this];rfl
     obtain⟨_,aP,ay,aB,bz⟩:=T.o;clear be;by_cases u1:0<=aL
     ·have R:V (kV ins ae ab aL=decide (aL<=50000)):=by simp_all
      have K:=decide_eq_true u1;go_wp2;go_ret;exact⟨i4 R.o,HK.o⟩
     have R:V (kV ins ae ab aL=false):=by simp_all
     have K:=yay u1;go_wp2;go_ret;exact⟨i4 R.o,HK.o⟩
   have R:V (kV ins ae ab aL=false):=by
    show _=_;unfold kV;rw[yay b9];simp
   have aa:decide (50<(ab:Int))=true:=decide_eq_true xaa;exact xfm
  have R:V (kV ins ae ab aL=false):=by
   show _=_;unfold kV;rw[yay a0];simp
  have aV:decide (2000<(ae:Int))=true:=decide_eq_true xaa;exact xfm
 have R:V (kV ins ae ab aL=false):=by
  show _=_;unfold kV;rw[HL.o,yay b5];simp
 have U:decide (20<(Z:Int))=true:=decide_eq_true xaa;exact xfm):Zp:=h
open cG in
theorem Lr(w lo hi a1 J a3 Z c1 ae c2 ab c3 aL ins)(f:IS w lo hi a1 Z ins):
  Calls prog 26 #[iQ a1 Z c1 J ae c2 a3 ab c3 aL] w λe B=>e=.returned (.bool (kV ins ae ab aL))/\Kept 0 0 w B:=by
 have aG:=eA 0 0 w (iE a1 Z c1 J ae c2 a3 ab c3 aL);have aD:V _:=f.keep aG yaa;have HL:V _:=f.len;exact qcq
theorem Ls(n:Nat)(w)(ag:n<=1099511627776):
  (Instr.makeSlice 59 (h1 n) (h1 n)).run prog w=.ok (h0 w.heap.size n n) (w.alloc (.cells (madeCells #[.bool false] n) 4)):=by
 obtain⟨i,hi,hz0,hz1,hz2⟩:=info_parts MR;have:=run_make w 59 4 i _ underlying59 hi hz0 .i64 .i64 n n xaa xaa (by grind) xaa;exact qcb
theorem BL.made(w:World)(n):BL (w.alloc (.cells (madeCells #[.bool false] n) 4)) w.heap.size n (λ_=>false):=by
 refine⟨by simp,λk O=>?_,λo=>by simp⟩;grind[yav,madeCells]
theorem Ey(h:k<ss.length)(j):jc ss k (ss.getD k Ste.zero) ((ss.getD k Ste.zero).dst+(ss.getD k Ste.zero).len) j=fZ ss (k+1) (j:Nat):=by
 rw[uK h];rfl
theorem Ie:iA ins ss (n:Int) k=(fA ins (ss.getD k Ste.zero)&&nK ss k n (ss.getD k Ste.zero)):=rfl
theorem wA(h:fA ins s=true):∀q,q<cnt s.op->1<=((eY s).getD q Spn.zero).len/\((eY s).getD q Spn.zero).len<=1000:=λq aA=>by
 have u:q<(eY s).length:=by rw[lV];exact aA
 rw[yai,yam u]
 exact qd h (List.getElem_mem _)
theorem Ay(h:kV ins ss.length a8.length aL=false):iG ins ss a8 aL=false:=by
 unfold iG;rw[h];rfl
theorem lg(hi:i<ss.length)(h:iA ins ss aL i=false):iG ins ss a8 aL=false:=by
 unfold iG;grind
theorem Ql{q}(O:k<a8.length)(t:q (a8.getD k Spn.zero)=false):a8.all q=false:=by
 grind
theorem wC{q}(O:k<a8.length)(h:(a8.take k).all q=true)(t:q (a8.getD k Spn.zero)=true):(a8.take (k+1)).all q=true:=by
 rw[yau O,List.all_append,h];simp_all
theorem Az(hi:i<a8.length)(h:oe ss aL (a8.getD i Spn.zero)=false):iG ins ss a8 aL=false:=by
 unfold iG;grind
theorem Lt(w g n cap ins ss i s)(ag:n<=50000)(aF:n<=cap)(f:BL w g n (λk=>fZ ss i (k:Nat)))(ba:fA ins s=true)(v)
  (aN:(s.op=0/\v=.iface 96 (mH s))\/∃G,G≠g/\v=.iface 98 (qT s G (cnt s.op))/\SB w G (cnt s.op) (eY s)):
  Calls prog 28 #[h0 g n cap,v] w λe B=>e=.returned (.bool (nK ss i n s))/\Kept g (g+1) w B/\(nK ss i n s=true->BL B g n (jc ss i s (s.dst+s.len))):=by
 have ai:=jV ba;rcases aN with⟨ak,rfl⟩|⟨G,br,rfl,a2⟩
 ·exact Ew w g n _ _ i s ag aF f ai.1 ai.2 (wA ba) ak
 exact Id w g n _ _ i s ag aF f ai.1 ai.2 (wA ba) G a2 br
theorem Lu(w s):
  Calls prog 29 #[s.agg] w λe B=>∃v,e=.returned v/\((s.op=0/\v=.iface 96 (mH s))\/∃G,w.heap.size<=G/\v=.iface 98 (qT s G (cnt s.op))/\SB B G (cnt s.op) (eY s))/\Kept 0 0 w B:=by
 by_cases h:s.op=0
 ·exact(wu w s h).mono λe B bx=>⟨_,bx.1,.inl ⟨h,rfl⟩,bx.2⟩
 exact(Ap w s h).mono λe B ⟨G,F,h2,h3,h4⟩=>⟨_,F,.inr ⟨G,h3,rfl,h2⟩,h4⟩
theorem cH.qcr(h:Zp:=by
 clear aG f t;cases h:kV ins ae ab aL
 ·have R:V _:=Ay (by rw[HN.o.1,HN.o.2.1];exact h);rw[h]at HX;go_enter func8,ntmps8;go_wp2_with fail;refine yaj HX.o ?_;rintro e am ⟨rfl,bM⟩;go_wp2;go_ret;exact⟨i4 R.o,Kept.trans HK.o bM⟩
 have Y:V (kV ins ss.length a8.length aL=true):=by rw[HN.o.1,HN.o.2.1];exact h
 rw[h]at HX;unfold kV at h;rw[HN.o.2.2]at h;simp only[Bool.and_eq_true,decide_eq_true_eq]at h;obtain⟨⟨⟨⟨b6,cf⟩,b7⟩,_⟩,bH,bk⟩:=h;obtain⟨N,rfl⟩:=Int.eq_ofNat_of_zero_le bH;go_enter func8,ntmps8;exact qfc):Zp:=h
theorem cH.qfd(h:Zp:=by
 have ao:=Ls N am xaa;have bj:=eA 0 0 am (.cells (madeCells #[.bool false] N) 4);have bE:V (BL _ _ N (λk=>fZ ss 0 k)):=BL.congr (BL.made am N) (λk _=>(uJ _ _).symm);have bv:V _:=T.o.sz;have u:V _:=aD.o.i.keep bj yaa;have aV:V _:=aD.o.s.keep bj yaa;have ag:V _:=aD.o.o.keep bj yaa;clear bM HX aD;obtain⟨_,aP,ay,aB,bz⟩:=T.o;replace T:V _:=T.o.keep bj;obtain⟨_,bq,aq,aT,b8⟩:=T.o;replace HK:V _:=Kept.trans HK.o bj;have bW:V (am.heap.size<(am.alloc (.cells (madeCells #[.bool false] N) 4)).heap.size):=by show _<_;simp
 generalize bK:am.heap.size=g at ao bE bv bW u aV ag;generalize am.alloc _=aU at ao T HK bE bW u aV ag bq aq aT b8;clear bj bK;go_wp2_with fail;clear aP ay aB bz bq aq aT b8 ao;go_loopw [17] (λx W=>∃k:Nat,k<=ae/\x=h1 k/\V ((List.range k).all (iA ins ss (N:Int))=true)/\V (BL W g N (λj=>fZ ss k (j:Nat)))/\V (Kept g (g+1) aU W)) (λx _=>ae-(intOf x).toNat)
 case atStart=>exact⟨0,yae,rfl,rfl,bE,Kept.refl _ _ _⟩
 case round=>
  obtain⟨k,O,rfl,be,m,az⟩:=hrel;clear bE;obtain⟨_,aP,ay,aB,bz⟩:=T.o.keepR az.o (.inl bv.o);by_cases hlt:k<ae
  ·rcases (aV.o.keep az.o (.inl yad)).at_ with bP|⟨d,bL,bS,aR,bd,bu,bC⟩
   ·omega
   have bw:=bC k hlt;have aK:V (iA _ _ _ k=(fA ins _&&nK ss k N _)):=Ie;have aa:V _:=λj=>Ey (i1 HN.o.1 hlt) j;have aF:=yak bW.o az.o.size;generalize ss.getD k _=s at bw aK aa;exact qgm
  have bO:V ((List.range ae).all (iA ins ss N)=true):=by
   have:=be.o;rw[show k=ae by omega]at this;exact this
  have af:V (BL wr g N (λj=>fZ ss ss.length j)):=by
   have:=m.o;rw[show k=ae by omega,<-HN.o.1]at this;exact this
  clear be m;go_wp2_with fail;clear aP ay aB bz;go_loopw [37] (λx W=>∃k:Nat,k<=ab/\x=h1 k/\V ((a8.take k).all (oe ss (N:Int))=true)/\V (BL W g N (λj=>fZ ss ss.length (j:Nat)))/\V (Kept g (g+1) aU W)) (λx _=>ab-(intOf x).toNat)
  case atStart=>exact⟨0,yae,rfl,rfl,af,az⟩
  case round=>
   clear af az;obtain⟨j,hj,rfl,l,m,az⟩:=hrel;by_cases cr:j<ab
   ·rcases (ag.o.keep az.o (.inl yad)).at_ with bP|⟨d,bL,bS,aR,bd,bu,bC⟩
    ·omega
    have bw:=bC j cr;have aj:V (oe ss (N:Int) (a8.getD j Spn.zero)=false->iG ins ss a8 (N:Int)=false):=λh=>Az (i1 HN.o.2.1 cr) h;have ak:V _:=λh=>wC (i1 HN.o.2.1 cr) l.o h;have aF:=yak bW.o az.o.size;generalize a8.getD j _=p at bw aj ak;have bj:=eA 0 0 wr p.box;have bZ:V _:=kE wr p;have hP:wr.heap.size<(wr.alloc p.box).heap.size:=by simp
    subst bS;obtain⟨bR,aM⟩:=bw;clear aR bd bu bC;have y:V _:=BL.keep m.o bj yaa;have cx:V _:=λw=>gX p.len w;have I:V _:=Kept.trans az.o (bj.mono λb _ c=>by omega);go_wp2_with fail;clear bR aM;generalize ad:wr.heap.size=P at bZ hP aF⊢;generalize wr.alloc _=bA at bZ hP y I bj⊢;clear ad bj m az;refine yaj (cx.o _) ?_;rintro e bD ⟨rfl,rfl⟩;cases ah:lenB p.len
    ·have R:V _:=aj.o (by unfold oe;rw[ah];rfl);have R2:V _:=HK.o.new I.o (Nat.le_of_lt bv.o);go_wp2;go_ret;exact⟨i4 R.o,R2.o⟩
    have ai:=of_decide_eq_true ah;obtain⟨bR,aM⟩:=bZ.o;rw[Nat.zero_add]at aM;have aW:V _:=Qj _ g N N _ _ xaa yad y.o p ai.1 ai.2;go_wp2_with fail;refine yaj aW.o ?_;rintro e cn ⟨rfl,bY⟩;have K:V _:=Kept.trans I.o (bY.mono λb _ c=>by omega);have z:V _:=BL.keep y.o bY yaa;clear bR aM bY aW I y bZ;simp only;cases U:jA ss ss.length (N:Int) p.off p.len
    ·have R:V _:=aj.o (by unfold oe;rw[U,Bool.and_false]);have R2:V _:=HK.o.new K.o (Nat.le_of_lt bv.o);go_wp2;go_ret;exact⟨i4 R.o,R2.o⟩
    have R:V _:=ak.o (by unfold oe;rw[ah,U];rfl);go_wp2;go_roundw;exact⟨j+1,by omega,by go_num,R,z,K⟩;simp[intOf];omega
   have R:V (iG ins ss a8 (N:Int)=true):=by
    show _=_;have:=l.o;rw[yap (i3 HN.o.2.1)]at this;unfold iG;rw[Y.o,this,HN.o.1,bO.o];rfl
   have R2:V _:=HK.o.new az.o (Nat.le_of_lt bv.o);go_wp2;go_ret;exact⟨i4 R.o,R2.o⟩):Zp:=h
theorem cH.qgn(h:Zp:=by
 clear aR bd bu bC;have F:V _:=(u.o.keep az.o (.inl yad)).keep bj yaa;have y:V _:=BL.keep m.o bj yaa;have an:V _:=(T.o.keepR az.o (.inl bv.o)).keep bj;obtain⟨_,bl,aS,a9,bV⟩:=an.o;go_wp2_with fail;clear bR aM bi aI r aC a7 bT aP ay aB bz bl aS a9 bV an;generalize ad:wr.heap.size=P at bZ hP aF⊢;have I:V _:=Kept.trans az.o (bj.mono λb _ c=>by omega);generalize wr.alloc _=bA at bZ hP F y I bj⊢;clear ad bj m az;refine yaj (Ep _ _ _ s _ _ _ _ F.o) ?_;rintro e bD ⟨rfl,a2⟩;have S:V _:=Kept.trans I.o (a2.mono λb _ c=>by omega);have al:V _:=BL.keep y.o a2 yaa;have ar:V _:=AtT.keep bZ.o hP a2 yaa;have d6:=yak hP a2.size;clear a2 F y bZ I hP;simp only;cases a:fA ins s
 ·have R:V (iG _ _ a8 _=false):=lg (i1 HN.o.1 hlt) (by rw[aK.o,a];rfl);have R2:V _:=HK.o.new S.o (Nat.le_of_lt bv.o);go_wp2;go_ret;exact⟨i4 R.o,R2.o⟩
 obtain⟨bR,aM,bi,aI,r,aC,a7,bT⟩:=ar.o;simp only[Nat.zero_add]at aM bi aI r aC a7 bT;go_wp2_with fail;clear bR aM bi aI r aC a7 bT;refine yaj (Lu _ s) ?_;rintro e cn ⟨v,rfl,aN,bY⟩;have K:V _:=Kept.trans S.o (bY.mono λb _ c=>by omega);have z:V _:=BL.keep al.o bY yaa;have C:V _:=Lt _ g N N _ _ k s xaa yad z.o a v (aN.imp id λ⟨G,_,h2,h3⟩=>⟨G,by omega,h2,h3⟩);clear bY S al ar aN;go_wp2_with fail;refine yaj C.o ?_;rintro e cd ⟨rfl,a5,(d2:V _)⟩;have ap:V _:=Kept.trans K.o a5;clear a5 K z C;simp only;cases X:nK ss k N s
 ·have R:V (iG _ _ a8 _=false):=lg (i1 HN.o.1 hlt) (by rw[aK.o,X,Bool.and_false]);have R2:V _:=HK.o.new ap.o (Nat.le_of_lt bv.o);go_wp2;go_ret;exact⟨i4 R.o,R2.o⟩
 have R:V _:=ig be.o (show iA _ _ _ k=true by rw[aK.o,a,X];rfl);have R1:V _:=BL.congr (d2.o X) (λj _=>aa.o j);go_wp2;go_roundw;exact⟨k+1,by omega,by go_num,R,R1,ap⟩;simp[intOf];omega):Zp:=h
open cH in
theorem qY(w a1 J a3 Z c1 ae c2 ab c3 aL ins ss a8)(f:CS w a1 Z J ae a3 ab ins ss a8):
  Calls prog 8 #[iQ a1 Z c1 J ae c2 a3 ab c3 aL] w λe B=>e=.returned (.bool (iG ins ss a8 aL))/\Kept 0 0 w B:=by
 have aG:=eA 0 0 w (iE a1 Z c1 J ae c2 a3 ab c3 aL);have t:=f.keep aG;have HX:V _:=Lr _ _ _ _ J a3 _ c1 ae c2 ab c3 aL _ t.i;have HN:V (ss.length=ae/\a8.length=ab/\ins.length=Z):=⟨f.s.len,f.o.len,f.i.len⟩
 have aD:V _:=t;exact qcq
theorem yy(w a1 J a3 Z c1 ae c2 ab c3 aL ins ss a8)(f:CS w a1 Z J ae a3 ab ins ss a8)(aN:iG ins ss a8 aL=false):
  Calls prog 10 #[iQ a1 Z c1 J ae c2 a3 ab c3 aL] w λe B=>e=.returned (.slice none 0 0)/\Kept 0 0 w B:=by
 have bj:=eA 0 0 w (iE a1 Z c1 J ae c2 a3 ab c3 aL);have bX:V _:=qY _ _ _ _ _ c1 _ c2 _ c3 aL _ _ _ (f.keep bj);rw[aN]at bX;clear f aN;go_enter func10,ntmps10;go_wp2_with (first|(go_at_call 8;refine yaj bX.o ?_;rintro e am ⟨rfl,av⟩)|fail);go_ret;exact⟨rfl,bj.trans av⟩
theorem If{C:World}{S cs xs X}(al:cs.toList=xs.map (Value.int .i64))(ag:xs.length=n)(bH:C.heap.size=X)(h:Kept 0 0 (C.alloc (.cells cs 3)) w)(aj:Chg S w bn)(a2:¬S X):IS bn X (X+1) (some ⟨X,0,none⟩) n xs:=by
 subst bH
 have ak:IS (C.alloc (.cells _ 3)) _ (C.heap.size+1) _ n _:=⟨ag,.inr ⟨_,0,rfl,yad,yaf,by simp,λk O=>by
  rw[Nat.zero_add,yav,<-Array.getElem?_toList,al,List.getElem?_map,yam xaa,yai,yam xaa]
  rfl⟩⟩
 exact(ak.keep h yaa).keepC aj (λg F h2 aw=>a2 (by have:g=C.heap.size:=xaa;rw[<-this];exact aw))
theorem Qm(w:World)(cs)(ys:List Int)(al:cs.toList=ys.map (Value.int .u8)):∀j,j<ys.length->((w.alloc (.cells cs 5)).drew).cell? ((⟨w.heap.size,0,none⟩:Addr).add j)=some (.int .u8 (ys.getD j 0)):=An w cs ys al
theorem Qn(w:World)(cs)(ys:List Int)(al:cs.toList=ys.map (Value.int .u8))(o):∀j,j<ys.length->(((w.alloc (.cells cs 5)).alloc o).drew).cell? ((⟨w.heap.size,0,none⟩:Addr).add j)=some (.int .u8 (ys.getD j 0)):=λj hj=>by
 have h:=An w _ _ al j hj
 rw[iM]at h⊢
 rw[((eA 0 0 _ o).trans (eF _)).cell xac xaa]
 exact h
theorem Qo(w:World)(cs)(ys:List Int)(al:cs.toList=ys.map (Value.int .u8))(o):∀j,j<ys.length->(((w.alloc o).alloc (.cells cs 5)).drew).cell? ((⟨w.heap.size+1,0,none⟩:Addr).add j)=some (.int .u8 (ys.getD j 0)):=λj hj=>by
 have h:=An (w.alloc o) _ _ al j hj
 rw[show(w.alloc o).heap.size=w.heap.size+1 by simp]at h
 exact h
theorem yB{ax u}(f:SvI am ax u Q)(a:AtT ax A 0 s)(a5:ax.heap.size=A+1)(a6:∀g,u.ownBlock=some g->g<A)(k:Kept 0 0 ax H)(r:YB bn am.heap.size (h0 g n cap) (Q++[s.op]))(d:Chg (λb=>u.ownBlock=some b) H bn)(o:u.ownBlock=some g\/A+1<=g):
  SvI am bn (h0 g n cap) (Q++[s.op])/\AtT bn A 0 s/\g≠A/\A<bn.heap.size:=by
 have F:=k.size;have h2:=d.size;refine⟨f.next k r d,(a.keep xaa k yaa).keepC xaa d (λc=>ix (a6 _ c)),?_,by omega⟩;rcases o with c|c
 ·have:=a6 _ c;omega
 omega
theorem AA{a5 v f}(h:SvI am bn (h0 g n cap) Q/\AtT bn A 0 s/\g≠A/\A<bn.heap.size)(k:Kept 0 0 bn H)(r:YB a5 am.heap.size v f)(d:Chg (λb=>(h0 g n cap).ownBlock=some b) H a5):SvI am a5 v f/\AtT a5 A 0 s:=by
 obtain⟨F,h2,h3,h4⟩:=h;have bK:=k.size;refine⟨F.next k r d,(h2.keep h4 k yaa).keepC xaa d (λc=>?_)⟩;simp[Value.ownBlock]at c;omega
theorem sw(w a1 J a3 Z c1 ae c2 ab c3 aL ins ss a8)(f:CS w a1 Z J ae a3 ab ins ss a8)(aN:iG ins ss a8 aL=true):
  Calls prog 10 #[iQ a1 Z c1 J ae c2 a3 ab c3 aL] w λe B=>∃v,e=.returned v/\YB B w.heap.size v (mq ins ss a8 aL)/\Kept 0 0 w B:=by
 have HO:V _:=CO aN;have bj:=eA 0 0 w (iE a1 Z c1 J ae c2 a3 ab c3 aL);have bX:V _:=qY _ _ _ _ _ c1 _ c2 _ c3 aL _ _ _ (f.keep bj);rw[aN]at bX;have af:=f.i.len;have bg:=f.s.len;have ah:=f.o.len;have b6:Z<=20:=ix HO.o.li
 have cf:ae<=2000:=ix HO.o.ls
 have b7:ab<=51:=ix HO.o.lo
 have HE:V (ins.length=Z/\ss.length=ae/\a8.length=ab):=⟨af,bg,ah⟩
 have al:V (∀k,(ss.getD k Ste.zero).k<18446744073709551616):=λk=>by
  rw[yai]
  cases bx:ss[k]? with
  |none=>decide
  |some v=>exact f.s.lt v (List.mem_of_getElem? bx)
 clear aN af bg ah;go_enter func10,ntmps10;go_wp2_with fail;refine yaj bX.o ?_;rintro e am ⟨rfl,av⟩;have T:V _:=(iX w _ _ _ _).keep av;have aD:V _:=CS.keep f (bj.trans av);have HK:V _:=bj.trans av;clear bX bj av f;have bH:V _:=HK.o.size;generalize w.heap.size=p at T⊢;go_upto_region 4 with fail;have bV:=YB.lit am _ [71,76] #[.int _ _,.int _ _] 2 rfl rfl yad xab;have l:V (SvI _ _ _ _):=⟨bV,eA 0 0 _ _⟩
 clear bV;generalize am.alloc _=aH at l⊢;obtain⟨_,aP,ay,aB,bz⟩:=T.o.keep l.o.k;go_wp2_with fail;clear aP ay aB bz;refine yaj (px _ _ _ _ [Z] _ 1 l.o.r rfl rfl xab (by intro y bp;simp at bp;omega) xab l.o.size) ?_;rintro e aU ⟨bc,rfl,aa,aI,_⟩;have H3:V _:=SvI.next l.o (eA 0 0 _ _) aa aI;clear aa aI l;obtain⟨_,aP,ay,aB,bz⟩:=T.o.keep H3.o.k;go_wp2_with fail;clear aP ay aB bz;refine yaj (qf _ _ _ _ _ _ _ _ 0 _ H3.o.r (aD.o.i.keep H3.o.k yaa) (λg _ h2 h3=>ix ((H3.o.r.blk h3).1)) HO.o.i (by simp[it]) xaa H3.o.size) ?_;rintro e bA ⟨bo,rfl,b1,r,_⟩;have aj:V _:=SvI.next H3.o iv b1 r;clear b1 r H3;obtain⟨_,aP,ay,aB,bz⟩:=T.o.keep aj.o.k;go_wp2_with fail;clear aP ay aB bz;refine yaj (px _ _ _ _ [ae] _ 1 aj.o.r rfl rfl xab (by intro y bp;simp at bp;omega) (by simp only[yal,jG,yaq,List.length_nil];have:=HE.o;omega) aj.o.size) ?_;rintro e bD ⟨aF,rfl,ct,aC,_⟩;have az:V _:=SvI.next aj.o (eA 0 0 _ _) ct aC;clear ct aC aj;obtain⟨P,hP⟩:∃P,P=[71,76]++[(Z:Int)].flatMap it++ins.flatMap it++[(ae:Int)].flatMap it:=⟨_,rfl⟩
 rw[<-hP]at az;have bZ:V _:=hP
 have cX:V (P.length<=100):=by
  show _<=_;rw[hP];simp only[yal,jG,yaq,List.length_nil];have:=HE.o;omega
 clear hP;obtain⟨_,aP,ay,aB,bz⟩:=T.o.keep az.o.k;go_wp2_with fail;clear aP ay aB bz;go_loopw [3,31] (λb i W=>∃k:Nat,k<=ae/\i=h1 k/\V (SvI am W b (P++(ss.take k).flatMap my))) (λ_ i _=>ae-(intOf i).toNat)
 case atStart=>exact⟨0,yae,rfl,by rw[List.take_zero,List.flatMap_nil,List.append_nil];exact az⟩
 case round=>
  obtain⟨k,O,rfl,K⟩:=hrel;clear az;obtain⟨_,aP,ay,aB,bz⟩:=T.o.keep K.o.k;by_cases hlt:k<ae
  ·rcases (aD.o.keep K.o.k).s.at_ with z|⟨d,off,rfl,aR,bd,bu,bC⟩
   ·omega
   have bw:=bC k hlt;have aw:=HO.o.s k (i1 HE.o.2.1 hlt);have a6:=al.o k;have bI:V _:=mM my _ Ste.zero (i1 HE.o.2.1 hlt)
   have N:V ((P++(ss.take k).flatMap my).length<=100000):=by
    show _<=_;have F:=qR (ss.take k);rw[List.length_take]at F;have h2:=cX.o;rw[yal];omega
   generalize ss.getD k _=s at bw aw a6 bI;obtain⟨bh,aJ,y2,y3,y4,b5,cA,au⟩:=bw;obtain⟨Q,C⟩:∃Q,Q=P++(ss.take k).flatMap my:=⟨_,rfl⟩
   rw[<-C]at K N;have HQ:V _:=C;have br:V _:=aw.2;have b4:=aw.1;have cW:V _:=a6;clear C aw aR bd bu bC a6;have bj:=eA 0 0 wr s.box;have bO:V _:=jD wr s;have bK:V _:=K.o.keep bj;have HZ:V ((wr.alloc s.box).heap.size=wr.heap.size+1):=by show _=_;simp
   have ag:V (∀g,u3.ownBlock=some g->_):=λg h=>(K.o.r.blk h).2;clear bj K;go_upto_region 10 with fail;clear bh aJ y2 y3 y4 b5 cA au;generalize wr.alloc _=ax at bO bK HZ⊢;generalize wr.heap.size=A at bO ag HZ⊢;have X:IntKind.u8.wrap s.op=s.op:=by rw[IntKind.wrap_u8];omega
   have bh:=bO.o.c0;have aJ:ax.cell? ⟨A,1,_⟩=some _:=bO.o.c1;have y2:ax.cell? ⟨A,2,_⟩=some _:=bO.o.c2;have y3:ax.cell? ⟨A,3,_⟩=some _:=bO.o.c3;have y4:ax.cell? ⟨A,4,_⟩=some _:=bO.o.c4;have b5:ax.cell? ⟨A,5,_⟩=some _:=bO.o.c5;have cA:ax.cell? ⟨A,6,_⟩=some _:=bO.o.c6
   go_region_held3 (λB=>B.cell? ⟨A,0,none⟩=some (h1 s.op)/\B.cell? ⟨A,1,none⟩=some (h1 s.len)/\B.cell? ⟨A,2,none⟩=some (h1 s.n)/\B.cell? ⟨A,3,none⟩=some (h1 s.dst)/\B.cell? ⟨A,4,none⟩=some (h1 s.a)/\B.cell? ⟨A,5,none⟩=some (h1 s.b)/\B.cell? ⟨A,6,none⟩=some (h1 s.c)) (go_keep)
    (first
     |(refine nH _ rfl _ _ rfl _ _ Q (by simp[Act.eval]) (bK.o.keep ((eA 0 0 _ _).trans (eF _))).r _ 1 1 _ (by simp[Act.eval]) rfl (Qm _ _ [s.op] rfl) xab (ix N.o) (by have:=bK.o.size;simp;omega) ?_;intro g9 cap9 n9 bn U I a ak;clear U;have u:V _:=yB bK.o bO.o HZ.o ag.o ((eA 0 0 _ _).trans (eF _)) I a (by rcases ak with h|h;exact .inl h;right;have:=HZ.o;simp at h;omega);obtain⟨bE,bm,ad,c9,eb,ec,ef,eg⟩:=u.o.2.1;clear I a ak)
     |(refine nH _ rfl _ _ rfl _ _ Q (by simp[Act.eval]) (bK.o.keep (((eA 0 0 _ _).trans (eA 0 0 _ _)).trans (eF _))).r _ 1 1 _ (by simp[Act.eval]) rfl (Qn _ _ [s.op] rfl _) xab (ix N.o) (by have:=bK.o.size;simp;omega) ?_;intro g9 cap9 n9 bn U I a ak;clear U;have u:V _:=yB bK.o bO.o HZ.o ag.o (((eA 0 0 _ _).trans (eA 0 0 _ _)).trans (eF _)) I a (by rcases ak with h|h;exact .inl h;right;have:=HZ.o;simp at h;omega);have a2:V (IS _ (ax.heap.size+1) _ _ 6 (fw s)):=If rfl rfl xac (eF _) a (λc=>i0 (ag.o _ c) HZ.o);have a9:V (g9<A\/ax.heap.size+2<=g9):=(by rcases ak with h|h;exact .inl (ag.o _ h);right;simp at h;omega);obtain⟨bE,bm,ad,c9,eb,ec,ef,eg⟩:=u.o.2.1;clear I a ak)
     |(refine nH _ rfl _ _ rfl _ _ Q (by simp[Act.eval]) (bK.o.keep (((eA 0 0 _ _).trans (eA 0 0 _ _)).trans (eF _))).r _ 1 1 _ (by simp[Act.eval]) rfl (Qo _ _ [s.op] rfl _) xab (ix N.o) (by have:=bK.o.size;simp;omega) ?_;intro g9 cap9 n9 bn U I a ak;clear U;have u:V _:=yB bK.o bO.o HZ.o ag.o (((eA 0 0 _ _).trans (eA 0 0 _ _)).trans (eF _)) I a (by rcases ak with h|h;exact .inl h;right;have:=HZ.o;simp at h;omega);have a2:V (IS _ _ _ _ 6 (fw s)):=If rfl rfl rfl ((eA 0 0 _ _).trans (eF _)) a (λc=>i0 (ag.o _ c) HZ.o);have a9:V (g9<A\/ax.heap.size+2<=g9):=(by rcases ak with h|h;exact .inl (ag.o _ h);right;simp at h;omega);obtain⟨bE,bm,ad,c9,eb,ec,ef,eg⟩:=u.o.2.1;clear I a ak)
     |(have bQ:=a2.o;go_at_call 35;refine yaj (qf _ _ _ _ _ _ 6 6 _ _ u.o.1.r a2.o (λg F h2 h3=>by have:=a9.o;have:=HZ.o;simp[Value.ownBlock]at h3;omega) br.o (by have:=N.o;simp;omega) xab u.o.1.size) ?_;rintro e a5 ⟨bB,rfl,ai,aA,_⟩;have aq:V _:=AA u.o iv ai aA;obtain⟨cF,m1,bl,m3,bi,cl,ep,bk⟩:=aq.o.2;clear ai aA)
     |(go_at_call 35;refine yaj (px _ _ _ _ _ _ 6 u.o.1.r rfl rfl xab br.o (by have:=N.o;simp;omega) u.o.1.size) ?_;rintro e a5 ⟨bB,rfl,ai,aA,_⟩;have aq:V _:=AA u.o (eA 0 0 _ _) ai aA;obtain⟨cF,m1,bl,m3,bi,cl,ep,bk⟩:=aq.o.2;clear ai aA))
   all_goals
    clear bE bm ad c9 eb ec ef eg bh aJ y2 y3 y4 b5 cA u
    obtain⟨G,aX⟩:∃G,G=Q++[s.op]++(fw s).flatMap it:=⟨_,rfl⟩
    have ap:V (SvI am a5 bB G):=i1 aX aq.o.1
    have bG:V (G.length<=200000):=by
     show _<=_
     rw[aX,yal,yal,jG];have:=N.o;simp[fw];omega
    have cw:V (P++(ss.take (k+1)).flatMap my=G++(if s.op=1 then jb (fb s.k) 8 else[])):=by
     show _=_
     rw[bI.o,aX,HQ.o]
     simp only[my,List.append_assoc]
    clear aX aq
    cases t:(s.op==1)
    ·have S:¬s.op=1:=by simpa using t
     rw[h6 S,List.append_nil]at cw
     rw[<-cw.o]at ap
     clear S cw
     go_wp2_with fail
     go_roundw;exact⟨k+1,by omega,by go_num,ap⟩;simp[intOf];omega
    ·have S:s.op=1:=by simpa using t
     rw[h7 S]at cw
     have a0:V _:=El _ _ _ _ _ cW.o ap.o.r (ix bG.o) ap.o.size
     clear S
     go_wp2_with fail
     refine yaj a0.o ?_
     rintro e bf ⟨bR,rfl,bq,bb,_⟩
     have an:V _:=SvI.next ap.o iv bq bb
     rw[<-cw.o]at an
     clear bq bb cw cF m1 bl m3 bi cl ep bk
     go_wp2_with fail
     go_roundw;exact⟨k+1,by omega,by go_num,an⟩;simp[intOf];omega
  obtain rfl:k=ae:=xaa;rw[yap (by rw[HE.o.2.1];exact yad)]at K;obtain⟨aG,aQ⟩:∃aG,aG=P++ss.flatMap my:=⟨_,rfl⟩
  rw[<-aQ]at K;have bL:V _:=aQ
  have j:V (aG.length<=50000):=by
   show _<=_;rw[aQ,yal];have:=qR ss;have:=cX.o;have:=HE.o;omega
  clear aQ;go_wp2_with fail;clear aP ay aB bz;refine yaj (px _ _ _ _ [ab] _ 1 K.o.r rfl rfl xab (by intro y bp;simp at bp;omega) (ix j.o) K.o.size) ?_;rintro e cn ⟨bT,rfl,aK,a7,_⟩;have aT:V _:=SvI.next K.o (eA 0 0 _ _) aK a7;clear aK a7 K;obtain⟨x,aS⟩:∃x,x=aG++[(ab:Int)].flatMap it:=⟨_,rfl⟩
  rw[<-aS]at aT;have bM:V _:=aS
  have ba:V (x.length<=50002):=by
   show _<=_;rw[aS,yal,jG];have:=j.o;simp;omega
  clear aS;obtain⟨_,aP,ay,aB,bz⟩:=T.o.keep aT.o.k;go_wp2_with fail;clear aP ay aB bz;go_loopw [3,72] (λb i W=>∃m:Nat,m<=ab/\i=h1 m/\V (SvI am W b (x++(a8.take m).flatMap qe))) (λ_ i _=>ab-(intOf i).toNat)
  case atStart=>exact⟨0,yae,rfl,by rw[List.take_zero,List.flatMap_nil,List.append_nil];exact aT⟩
  case round=>
   obtain⟨m,ao,rfl,K⟩:=hrel;clear aT;obtain⟨_,aP,ay,aB,bz⟩:=T.o.keep K.o.k;by_cases hlt:m<ab
   ·rcases (aD.o.keep K.o.k).o.at_ with z|⟨d,off,rfl,aR,bd,bu,bC⟩
    ·omega
    have bw:=bC m hlt;have aw:=HO.o.o m (i1 HE.o.2.2 hlt);have bI:V _:=mM qe _ Spn.zero (i1 HE.o.2.2 hlt);obtain⟨Q,C⟩:∃Q,Q=x++(a8.take m).flatMap qe:=⟨_,rfl⟩
    have bF:V (Q.length<=100000):=by
     show _<=_;have h2:=ba.o;rw[C,yal,qS,List.length_take];omega
    rw[<-C]at K;have HQ:V _:=C;generalize a8.getD m _=s at bw aw bI;obtain⟨bh,aJ⟩:=bw;obtain⟨⟨ar,aW⟩,bJ,cB⟩:=aw;clear C aR bd bu bC aP ay aB bz;have bK:V _:=K.o.keep (eA 0 0 _ s.box);have Y:V ((wr.alloc s.box).cell? ⟨wr.heap.size,0,none⟩=some (h1 s.off)):=by show _=_;go_simp
    have aZ:V ((wr.alloc s.box).cell? ⟨wr.heap.size,1,none⟩=some (h1 s.len)):=by show _=_;go_simp
    clear K;go_upto_region 18 with fail;clear bh aJ;generalize wr.alloc _=ax at bK Y aZ⊢;generalize wr.heap.size=A at Y aZ⊢;have bh:=Y.o;have aJ:=aZ.o;go_wp2_with fail;clear bh aJ;refine yaj (px _ _ _ Q [s.off,s.len] _ 2 bK.o.r rfl rfl xab (by intro y bp;simp at bp;omega) (ix bF.o) bK.o.size) ?_;rintro e bn ⟨cP,rfl,I,a,_⟩;have an:V _:=SvI.next bK.o (eA 0 0 _ _) I a
    have R:V (SvI am bn cP (x++(a8.take (m+1)).flatMap qe)):=by
     have h:=an.o
     have e:x++(a8.take (m+1)).flatMap qe=Q++[s.off,s.len].flatMap it:=by
      rw[bI.o,HQ.o];simp[qe]
     rw[e];exact h
    clear I a an bK;go_wp2_with fail;go_roundw;exact⟨m+1,by omega,by go_num,R⟩;simp[intOf];omega
   obtain rfl:m=ab:=xaa;rw[yap (by rw[HE.o.2.2];exact yad)]at K;obtain⟨aM,aV⟩:∃aM,aM=x++a8.flatMap qe:=⟨_,rfl⟩
   rw[<-aV]at K;have bN:V _:=aV
   have a0:V (aM.length<=60000):=by
    show _<=_;rw[aV,yal,qS];have:=ba.o;have:=HE.o;omega
   clear aV;have cV:=HO.o.p;go_wp2_with fail;clear aP ay aB bz;refine yaj (px _ _ _ _ [aL] _ 1 K.o.r rfl rfl xab (by intro y bp;simp at bp;omega) (ix a0.o) K.o.size) ?_;rintro e aO ⟨bS,rfl,bv,be,_⟩;have aY:V _:=SvI.next K.o (eA 0 0 _ _) bv be
   have bP:V (aM++[aL].flatMap it=mq ins ss a8 aL):=by
    show _=_;unfold mq;rw[bN.o,bM.o,bL.o,bZ.o,HE.o.1,HE.o.2.1,HE.o.2.2];simp only[List.flatMap_singleton]
   rw[bP.o]at aY;clear bv be K;go_wp2_with fail;go_ret;exact⟨_,rfl,gy aY.o.r bH.o,Kept.trans HK.o aY.o.k⟩
theorem OK{W U aa m1 af m3 ah base vs o a5 X bz bD R R'}{a0 j:Nat}{S d c0 c1 c2 c5 cd ce b2 bp bY b6 cC co cu cq cg cl cn}(Y:V (MS w W U m1 af aa m3 ah vs ⟨o,a5,(j:Int),X,bz,bD⟩ base R R' (some ⟨a0,0,none⟩) cap))(bM:vs.length<=900000)(hj:j<vs.length)(m:(vs.getD j h9).len=S):PfC 30 W (MpR w U m1 af aa m3 ah vs ⟨o,a5,(j:Int),X,bz,bD⟩ base R (eJ 10 S d 0 0)) c0 c1 c2 (h1 d) (hZ w.heap.size) c5 cd ce b2 bp bY (hZ (w.heap.size+1+1)) b6 cC co cu cq cg cl cn bp bY:=by
 unfold PfC;intros;rename_i HK;have bf:V (∀ax,Kept 0 0 W ax->_):=λax k=>MS.call Y.o k (eJ 10 S d 0 0) xaa;have aY:=Y.o.g.c0;have ar:=Y.o.g.c1;have aW:=Y.o.g.c2;have bb:=Y.o.v.c2;exact xbz
