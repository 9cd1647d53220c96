import Derived.Test.YtcjhlkdleojbjaaGreatP52
import Derived.Test.YtcjhlkdleojbjaaGreatP41
import Derived.Test.YtcjhlkdleojbjaaGreatP22
import Derived.Test.YtcjhlkdleojbjaaGreatP32
namespace Go.Proofs.Z
variable{Zp:Prop}
open Tryz Go.RowKit Flt
set_option maxRecDepth 1000000
set_option maxHeartbeats 0
section
variable{vs:List Vl}{r rs:List (List Nat)}{ss:List Ste}{i n k:Nat}
def mz(ss:List Ste)(rs:List (List Nat)):Nat->Int->Nat
 |0,_=>0
 |n+1,c=>if (ss.getD n Ste.zero).dst<=c/\c<(ss.getD n Ste.zero).dst+(ss.getD n Ste.zero).len then (rs.getD n []).getD (c-(ss.getD n Ste.zero).dst).toNat 0 else mz ss rs n c
def jK(ss:List Ste)(rs:List (List Nat))(n:Nat)(off len:Int):List Nat:=(List.range len.toNat).map λj=>mz ss rs n (off+(j:Nat))
def doM(xss:List (List Nat))(ss:List Ste)(rs:List (List Nat))(n:Nat)(s:Ste):List Nat:=
 if s.op=0 then xss.getD s.a.toNat [] else
  iL s.op s.len s.c s.k (if 0<cnt s.op then jK ss rs n s.a s.n else[]) (if 1<cnt s.op then jK ss rs n s.b s.len else[]) (if 2<cnt s.op then jK ss rs n s.c s.len else[])
def jc(xss:List (List Nat))(ss:List Ste):Nat->List (List Nat)
 |0=>[]
 |i+1=>jc xss ss i++[doM xss ss (jc xss ss i) i (ss.getD i Ste.zero)]
def Jr(xss:List (List Nat))(ss:List Ste)(os:List Spn):List (List Nat):=os.map λp=>jK ss (jc xss ss ss.length) ss.length p.off p.len
theorem mS(r ss):∀i,(jc r ss i).length=i
 |0=>rfl
 |i+1=>by rw[jc,yal,mS _ _ i];rfl
theorem AD(r ss){j}(h:j<i):(jc r ss (i+1)).getD j []=(jc r ss i).getD j []:=by
 rw[jc,yai,yat (by rw[mS];exact h),<-yai]
theorem AE(r ss i):(jc r ss (i+1)).getD i []=doM r ss (jc r ss i) i (ss.getD i Ste.zero):=by
 rw[jc,yai,yas (by rw[mS];exact yad),mS,Nat.sub_self];rfl
theorem rU{ss rs l}:∀{n:Nat},(∀k,k<n->rs.getD k []=l.getD k [])->∀c,mz ss rs n c=mz ss l n c
 |0,_,_=>rfl
 |n+1,h,c=>by
  unfold mz
  rw[h n yaf,rU (λk O=>h k xaa) c]
theorem BT(r ss n c):mz ss (jc r ss (n+1)) (n+1) c=if (ss.getD n Ste.zero).dst<=c/\c<(ss.getD n Ste.zero).dst+(ss.getD n Ste.zero).len then (doM r ss (jc r ss n) n (ss.getD n Ste.zero)).getD (c-(ss.getD n Ste.zero).dst).toNat 0 else mz ss (jc r ss n) n c:=by
 rw[mz,AE,rU (λk O=>AD _ _ O)]
theorem pe(ss rs n off len):(jK ss rs n off len).length=len.toNat:=by simp[jK]
theorem Js{off len}(h:k<len.toNat):(jK ss rs n off len).getD k 0=mz ss rs n (off+(k:Nat)):=by
 simp[jK,List.getD_eq_getElem?_getD,h]
theorem AF{ss rs}(h:jf rs):∀n c,mz ss rs n c<18446744073709551616
 |0,_=>by show 0<18446744073709551616;decide
 |n+1,c=>by
  unfold mz
  split
  ·exact gI (h n) _
  ·exact AF h n c
theorem qM(h:jf rs)(n off len):∀x∈jK ss rs n off len,x<18446744073709551616:=by
 intro x an;obtain⟨k,_,rfl⟩:=List.mem_map.1 an;exact AF h _ _
theorem O8{s}(an:jf r)(au:s.k<18446744073709551616)(aD:jf rs):∀x∈doM r ss rs n s,x<18446744073709551616:=by
 unfold doM;split
 ·exact an _
 exact Cq au (lr (qM aD _ _ _)) (lr (qM aD _ _ _)) (lr (qM aD _ _ _))
theorem Jt{r ss}(an:jf r)(aO:∀k,(ss.getD k Ste.zero).k<18446744073709551616):∀i,jf (jc r ss i)
 |0=>λk x h=>by simp[jc]at h
 |i+1=>λk x h=>by
  have G:=Jt an aO i
  rcases Nat.lt_trichotomy k i with c|c|c
  ·rw[AD _ _ c]at h;exact G k x h
  ·subst c;rw[AE]at h;exact O8 an (aO _) G x h
  ·rw[yai,List.getElem?_eq_none (by rw[mS];omega)]at h;cases h
theorem MA{ins s}(hi:inB ins r=true)(h:iG ins s=true):((doM r ss rs n s).length:Int)=s.len:=by
 have af:=ot h;unfold doM;by_cases al:s.op=0
 ·rw[hD al];unfold iG at h;rw[hD al]at h;simp only[Bool.and_eq_true]at h;have h3:=h.2;have ar:=of_decide_eq_true h3.1;unfold inB at hi;rw[Bool.and_eq_true]at hi;have an:=List.all_eq_true.1 hi.2 s.a.toNat (List.mem_range.2 xaa);rw[beq_iff_eq.1 an];exact beq_iff_eq.1 h3.2
 rw[hC al];have au:=tR h al;have ad:=λah=>GM h ah;have ah:=fI s.op;rw[zD]
 ·omega
 unfold i8;rw[mD af.1 af.2,Bool.true_and];have a9:((jK ss rs n s.b s.len).length:Int)=s.len:=by rw[pe];omega
 have ai:((jK ss rs n s.c s.len).length:Int)=s.len:=by rw[pe];omega
 have ae:0<cnt _->((jK ss rs n s.a s.n).length:Int)=s.n:=λah=>by have:=ad ah;rw[pe];omega
 rcases (by omega:cnt s.op=0\/cnt s.op=1\/cnt s.op=2\/cnt s.op=3) with e|e|e|e
 ·rw[e]at au⊢;exact au
 ·rw[e]at au ae⊢;simp only[List.take_succ_cons,List.take_zero]at au⊢;rw[hD xaa,ae xaa];exact au
 ·rw[e]at au ae⊢;simp only[List.take_succ_cons,List.take_zero]at au⊢;rw[hD xaa,hD xaa,ae xaa,a9];exact au
 rw[e]at au ae⊢;simp only[List.take_succ_cons,List.take_zero]at au⊢;rw[hD xaa,hD xaa,hD xaa,ae xaa,a9,ai];exact au
theorem BU(vs outs){i j}(h:j<i):∀d,(eW vs outs (i+d)).getD j 0=(eW vs outs i).getD j 0
 |0=>rfl
 |d+1=>by rw[<-Nat.add_assoc,xo _ _ xaa,BU vs outs h d]
theorem BV(vs ps)(h:i<n):(iu vs ps n).getD i Ste.zero=qy vs ps i:=by
 simp[iu,h]
theorem v8(hi:i<k)(aB:qu (vs.getD k hF) i=true):∀m,k<i+1+m->(k:Int)<=ie vs i m
 |0,h=>by omega
 |m+1,h=>by
  rw[ie]
  split
  ·omega
  ·rename_i c
   refine v8 hi aB m ?_
   rcases Nat.lt_or_ge k (i+1+m) with d|d
   ·exact d
   ·have:k=i+1+m:=xaa
    subst this;exact absurd aB c
theorem Ju{outs}(hi:i<k)(O:k<vs.length)(aB:qu (vs.getD k hF) i=true):(k:Int)<=iA vs outs i:=by
 unfold iA;split
 ·omega
 exact v8 hi aB _ xaa
section
variable{ins outs:List Int}{vs:List Vl}
theorem CX(h:okG ins vs outs=true):(∀k,k<vs.length->1<=(vs.getD k hF).len)/\jW vs vs.length<=50000:=by
 obtain⟨_,_,aO,_,ah⟩:=gU h;refine⟨λk O=>(fU (aO k O)).1,?_⟩;rw[jm _ _ yad,List.take_length];exact ah
theorem yo(h:okG ins vs outs=true){a i}(ar:a<i)(hi:i<vs.length)(af:(i:Int)<=iA vs outs a):(eW vs outs vs.length).getD i 0+(vs.getD i hF).len<=(eW vs outs vs.length).getD a 0\/(eW vs outs vs.length).getD a 0+(vs.getD a hF).len<=(eW vs outs vs.length).getD i 0:=by
 obtain⟨b8,cg⟩:=CX h;obtain⟨p,aM,_,a5,_⟩:=tP (outs:=outs) b8 cg hi;have ae:=BU vs outs (Nat.lt_succ_self i) (vs.length-(i+1));have a9:=BU vs outs ar (vs.length-i);rw[show i+1+(vs.length-(i+1))=vs.length by omega,xq,aM]at ae;rw[show i+(vs.length-i)=vs.length by omega]at a9;unfold jA at a5;have a6:nF vs outs (eW vs outs i) i (vs.getD i hF).len p a=false:=by simpa using List.all_eq_true.1 a5 a (List.mem_range.2 ar)
 unfold nF at a6;rw[decide_eq_true af,Bool.true_and]at a6;rw[ae,a9];rcases Bool.and_eq_false_iff.1 a6 with c|c<;>have:=of_decide_eq_false c<;>omega
theorem CY(h:okG ins vs outs=true){k q}(O:k<vs.length)(ap:q<cnt (vs.getD k hF).op):∃a:Nat,fld (vs.getD k hF) q=a/\a<k/\(k:Int)<=iA vs outs a:=by
 obtain⟨_,_,aO,_,_⟩:=gU h;have ho:=qe (aO k O)
 have am:fld (vs.getD k hF) q∈fe (vs.getD k hF):=by
  have:=fI (vs.getD k hF).op;rcases (by omega:q=0\/q=1\/q=2) with rfl|rfl|rfl
  ·exact wJ ap
  ·exact wK ap
  exact wL ap
 have:=ho _ am;obtain⟨a,e⟩:=Int.eq_ofNat_of_zero_le this.1;refine⟨a,e,by omega,Ju xaa O ?_⟩;unfold qu;exact List.any_eq_true.2 ⟨q,List.mem_range.2 ap,by rw[e];exact beq_self_eq_true _⟩
theorem MB{ps rs n a k}(f:a<k)(bK:k<=n){c}(ah:ps.getD a 0<=c/\c<ps.getD a 0+(vs.getD a hF).len)(aK:∀i,a<i->i<k->ps.getD i 0+(vs.getD i hF).len<=ps.getD a 0\/ps.getD a 0+(vs.getD a hF).len<=ps.getD i 0):mz (iu vs ps n) rs k c=(rs.getD a []).getD (c-ps.getD a 0).toNat 0:=by
 induction k with
 |zero=>omega
 |succ k G=>
  rw[mz,BV vs ps xaa];by_cases e:a=k
  ·subst e;exact hD ah
  have h:=aK k xaa xaa;exact(hC (show ¬(ps.getD k 0<=c/\c<ps.getD k 0+(vs.getD k hF).len) by omega)).trans (G xaa xaa λi F N=>aK i F xaa)
theorem CZ{ps rs n a k}(f:a<k)(bK:k<=n)(af:((rs.getD a []).length:Int)=(vs.getD a hF).len)(aK:∀i,a<i->i<k->ps.getD i 0+(vs.getD i hF).len<=ps.getD a 0\/ps.getD a 0+(vs.getD a hF).len<=ps.getD i 0):jK (iu vs ps n) rs k (ps.getD a 0) (vs.getD a hF).len=rs.getD a []:=by
 unfold jK;refine List.ext_getElem (by rw[List.length_map,List.length_range];omega) λj F N=>?_;have h3:j<(rs.getD a []).length:=N;rw[List.getElem_map,List.getElem_range,MB f bK xaa aK,show(ps.getD a 0+(j:Nat)-ps.getD a 0).toNat=j by omega,yai,yam h3];rfl
end
section
variable{ins outs:List Int}{vs:List Vl}
theorem MC(ps){k}(aO:okV ins vs k=true):iG ins (qy vs ps k)=true/\fh (qy vs ps k)=(fe (vs.getD k hF)).map (pH vs ps):=by
 have b9:=mY aO;unfold okV at aO;unfold iG fh qy pH j9;generalize vs.getD k _=v at*;obtain⟨op,len,a,b,c,K⟩:=v;simp only at*;rcases (by omega:op=0\/op=1\/op=2\/op=3\/op=4\/op=5\/op=6\/op=7\/op=8\/op=9\/op=10\/op=11\/op=12\/op=13) with rfl|rfl|rfl|rfl|rfl|rfl|rfl|rfl|rfl|rfl|rfl|rfl|rfl|rfl<;>simp_all[cnt,fW,iU,eV,fe]<;>grind
theorem C6(ps):∀k i,i<k->ps.getD i 0+(vs.getD i hF).len<=fg vs ps k
 |k+1,i,h=>by
  rw[fg]
  by_cases e:i=k
  ·subst e;split<;>omega
  ·have:=C6 ps k i xaa
   split<;>omega
theorem C8(ps){b}(hb:0<=b):∀k,(∀i,i<k->ps.getD i 0+(vs.getD i hF).len<=b)->0<=fg vs ps k/\fg vs ps k<=b
 |0,_=>⟨Int.le_refl _,hb⟩
 |k+1,h=>by
  have F:=C8 ps hb k λi hi=>h i xaa
  have N:=h k (Nat.lt_succ_self k)
  rw[fg]
  split<;>omega
theorem C9{ps n a k bA}(ar:a<k)(O:k<=n)(al:0<=ps.getD a 0)(aM:ps.getD a 0+(vs.getD a hF).len<=bA):mJ (iu vs ps n) k bA (ps.getD a 0) (vs.getD a hF).len=true:=by
 unfold mJ mI;rw[decide_eq_true (show 0<=ps.getD a 0/\ps.getD a 0<=bA-(vs.getD a hF).len by omega),Bool.true_and];refine List.all_eq_true.2 λj hj=>?_;have m:=List.mem_range.1 hj;unfold iY;refine List.any_eq_true.2 ⟨qy vs ps a,?_,decide_eq_true (show ps.getD a 0<=ps.getD a 0+(j:Nat)/\ps.getD a 0+(j:Nat)<ps.getD a 0+(vs.getD a hF).len by omega)⟩;refine List.mem_take_iff_getElem.2 ⟨a,by rw[kK];omega,?_⟩;simp[iu]
theorem uH(h:okG ins vs outs=true):oq ins (iu vs (eW vs outs vs.length) vs.length) (outs.map (pH vs (eW vs outs vs.length))) (fg vs (eW vs outs vs.length) vs.length)=true/\fg vs (eW vs outs vs.length) vs.length<=eU vs:=by
 obtain⟨⟨aq,aN,be⟩,bY,aO,ho,ah⟩:=gU h;obtain⟨b8,cg⟩:=CX h;have hb:=kZ (outs:=outs) b8 cg _ yad;have au:∀i,i<vs.length->(eW vs outs vs.length).getD i 0+(vs.getD i hF).len<=jW vs vs.length:=λi hi=>Int.le_trans (hb i hi).2 (gY b8 xaa yad);have e1:0<=jW vs vs.length:=by have:=gY b8 (Nat.zero_le vs.length) yad;simpa[jW] using this
 have aM:=C8 (eW vs outs vs.length) e1 _ au;have aJ:=C6 (vs:=vs) (eW vs outs vs.length) vs.length;have g:=jm vs vs.length yad;rw[List.take_length]at g;refine⟨?_,by omega⟩;have a5:=λk a=>yo (a:=a) (i:=k) h;have aB:=λk q=>CY (k:=k) (q:=q) h;generalize eW vs outs vs.length=ps at*;unfold oq;rw[kK,List.length_map,Bool.and_eq_true,Bool.and_eq_true];refine⟨⟨?_,List.all_eq_true.2 λk O=>?_⟩,List.all_eq_true.2 λp am=>?_⟩
 ·unfold mL;rw[bY,decide_eq_true aq,decide_eq_true aN,decide_eq_true be,decide_eq_true (show 0<=fg vs ps vs.length/\fg vs ps vs.length<=50000 by omega)];rfl
 ·have u:=List.mem_range.1 O;obtain⟨f1,f2⟩:=MC ps (aO k u);unfold mK;rw[BV _ _ u,f1,f2,Bool.true_and,Bool.and_eq_true];have F:=hb k u;have N:=aJ k u;refine⟨decide_eq_true (show 0<=ps.getD k 0/\ps.getD k 0<=fg vs ps vs.length-(vs.getD k hF).len by omega),List.all_eq_true.2 λp am=>?_⟩;obtain⟨o,f,rfl⟩:=List.mem_map.1 am
  obtain⟨q,ap,rfl⟩:∃q,q<cnt (vs.getD k hF).op/\fld (vs.getD k hF) q=o:=by
   unfold fe at f;have:=fI (vs.getD k hF).op;obtain⟨q,ap,e⟩:=List.getElem_of_mem f;rw[List.length_take]at ap;rw[List.getElem_take]at e;refine⟨q,by omega,?_⟩;have Q:q<3:=by simpa using (by omega:q<3)
   rcases (by omega:q=0\/q=1\/q=2) with rfl|rfl|rfl<;>exact e
  obtain⟨a,b5,ar,af⟩:=aB k q u ap;rw[b5];unfold mq pH;rw[Int.toNat_natCast];have h3:=hb a xaa;have a6:=aJ a xaa;rw[C9 ar (Nat.le_of_lt u) h3.1 xaa,Bool.true_and];have bF:=a5 k a ar u af;show(!decide (ps.getD k 0<ps.getD a 0+(vs.getD a hF).len/\ps.getD a 0<ps.getD k 0+(vs.getD k hF).len))=true;rw[yay (show ¬(ps.getD k 0<ps.getD a 0+(vs.getD a hF).len/\ps.getD a 0<ps.getD k 0+(vs.getD k hF).len) by omega)];rfl
 obtain⟨o,f,rfl⟩:=List.mem_map.1 am;obtain⟨a,rfl⟩:=Int.eq_ofNat_of_zero_le (ho o f).1;have ar:=(ho _ f).2;unfold tQ pH;rw[Int.toNat_natCast,kK,yI (aO a xaa),Bool.true_and];exact C9 xaa yad (hb a xaa).1 (aJ a xaa)
end
theorem Jv{op len C C' K K' P Q X}(bu:op=11\/op=12->C=C')(aI:op=1->K=K'):iL op len C K P Q X=iL op len C' K' P Q X:=by
 have ae:∀a b c,i8 op len C a b c=i8 op len C' a b c:=λa b c=>by
  unfold i8 eV;grind
 have a9:gD op C K P Q X=gD op C' K' P Q X:=by
  funext k;by_cases h:op=1
  ·unfold gD;rw[hD h,hD h,aI h]
  by_cases h':op=11\/op=12
  ·unfold gD;rw[hC h,hC h,bu h']
  unfold gD;rw[hC h,hC h];simp only[hC (λe=>h' (.inl e)),hC (λe=>h' (.inr e))]
 unfold iL;rw[ae,a9]
section
variable{ins outs:List Int}{vs:List Vl}{r:List (List Nat)}
theorem MD{k q}(aO:okV ins vs k=true)(ap:q<cnt (vs.getD k hF).op)(F:0<q):(vs.getD (fld (vs.getD k hF) q).toNat hF).len=(vs.getD k hF).len:=by
 have b9:=mY aO;unfold okV at aO;generalize vs.getD k _=v at*;obtain⟨op,len,a,b,c,K⟩:=v;simp only at*;have:=fI op;rcases (by omega:q=1\/q=2) with rfl|rfl<;>rcases (by omega:op=0\/op=1\/op=2\/op=3\/op=4\/op=5\/op=6\/op=7\/op=8\/op=9\/op=10\/op=11\/op=12\/op=13) with rfl|rfl|rfl|rfl|rfl|rfl|rfl|rfl|rfl|rfl|rfl|rfl|rfl|rfl<;>simp_all[cnt,eV,fe,fld]
theorem Jw(ps){Rs ss k}(aO:okV ins vs k=true)(K:∀q,q<cnt (vs.getD k hF).op->jK ss Rs k (ps.getD (fld (vs.getD k hF) q).toNat 0) (vs.getD (fld (vs.getD k hF) q).toNat hF).len=Rs.getD (fld (vs.getD k hF) q).toNat []):doM r ss Rs k (qy vs ps k)=one r (vs.getD k hF) Rs:=by
 have af:=λq ap F=>MD (q:=q) aO ap F;unfold doM one qy;dsimp only;generalize vs.getD k _=v at*;by_cases al:v.op=0
 ·rw[hD al,hD al,hC (show ¬0<cnt v.op by rw[al];decide)]
 rw[hC al,hC al,Jv (C':=v.c) (K':=v.k) (λh=>by rcases h with h|h<;>rw[h]<;>rfl) λh=>hD h];have br:=K 0;have ay:=K 1;have a0:=K 2;have b8:=af 1;have cg:=af 2;simp only[fld]at br ay a0 b8 cg;congr 1<;>split<;>grind
theorem AG(h:okG ins vs outs=true)(hi:inB ins r=true):∀k,k<=vs.length->jc r (iu vs (eW vs outs vs.length) vs.length) k=fV r vs k
 |0,_=>rfl
 |k+1,O=>by
  obtain⟨_,_,aO,_,_⟩:=gU h
  rw[jc,fV,AG h hi k xaa,BV _ _ O,Jw _ (aO k O)]
  intro q ap
  obtain⟨a,b5,ar,af⟩:=CY h O ap
  rw[b5,Int.toNat_natCast]
  exact CZ ar xaa (oz hi k (List.all_eq_true.2 λj hj=>aO j (hJ (List.mem_range.1 hj))) a ar) λi F N=>yo h F xaa xaa
theorem Jx(h:okG ins vs outs=true)(hi:inB ins r=true):Jr r (iu vs (eW vs outs vs.length) vs.length) (outs.map (pH vs (eW vs outs vs.length)))=outs.map λo=>(fV r vs vs.length).getD o.toNat []:=by
 obtain⟨_,_,aO,ho,_⟩:=gU h;unfold Jr;rw[kK,AG h hi _ yad,List.map_map];refine List.map_congr_left λo am=>?_;obtain⟨a,rfl⟩:=Int.eq_ofNat_of_zero_le (ho o am).1;have ar:=(ho _ am).2;show jK _ _ _ ((eW vs outs vs.length).getD a 0) (vs.getD a hF).len=_
 exact CZ xaa yad (oz hi _ (List.all_eq_true.2 λj hj=>aO j (List.mem_range.1 hj)) a xaa) λi F N=>yo h F N (by
  have:isO outs a=true:=List.any_eq_true.2 ⟨_,am,by simp⟩
  unfold iA;rw[hD this];omega)
end
end
section
attribute[local go_sem] eF eE eD
variable{l:List (List UInt8)}{L z a9 P n cap:Nat}{g:ByteArray}{w:World}{a:Option Addr}
variable{bs:List Int}
theorem O9{K:Type}{G:Nat->K->Prop}{H:Nat->K->K->Prop}(h:∀k a,G k a->∃b,G (k+1) b/\H k a b){b0}(al:G 0 b0):∃f:Nat->K,f 0=b0/\∀k,G k (f k)/\H k (f k) (f (k+1)):=by
 let bg:(k:Nat)->{a//G k a}:=λk=>Nat.rec ⟨_,al⟩ (λk x=>⟨_,(Classical.choose_spec (h k _ x.2)).1⟩) k
 exact⟨_,rfl,λk=>⟨(bg k).2,(Classical.choose_spec (h k _ (bg k).2)).2⟩⟩
structure Ss where
 e:List (List UInt8×Int)
 o:ByteArray
 i:Nat
def Gs(L Z:Nat)(s:Ss):Prop:=s.e.length=L/\(∀x∈s.e,x.1.length<=5)/\s.o.size<=Z
def nmB(k:Nat):List UInt8:=nmL.getD k []
theorem yp(k):(nmB k).length<=5:=by
 match k with
 |0|1|2|3|4|5|6=>decide
 |k+7=>exact yae
theorem nv3(i):1<=1+(nv bs i:Int)%3/\1+(nv bs i:Int)%3<=3:=xaa
theorem Gs.put{s}(h:Gs L a9 s)(k q x j)(an:x.size<=z):Gs (L+1) (a9+z) ⟨s.e++[(nmB k,q)],s.o++x,j⟩:=
 ⟨by rw[yal,h.1];rfl,λy bN=>by
  rcases List.mem_append.1 bN with c|c
  ·exact h.2.1 y c
  ·rw[List.mem_singleton.1 c];exact yp k,by have:=h.2.2;grind⟩
def ex3(q:Int)(d:Int):Xd->Array Value:=λX=>#[.slice X.aE X.nE X.cE,.int .i64 q,.int .i64 d,.pointer (some ⟨X.P,0,none⟩)]
def inX(bs:List Int)(gap:ByteArray)(k:Nat)(s:Ss):ByteArray:=⟨#[105,110,32]⟩++⟨(nmB k).toArray⟩++⟨#[32,58,32]⟩++⟨(gO (1+nv bs s.i%3)).toArray⟩++⟨#[59]⟩++gap
def R1(bs:List Int)(gap:ByteArray)(k:Nat)(s s':Ss):Prop:=s'=⟨s.e++[(nmB k,1+(nv bs s.i:Int)%3)],s.o++inX bs gap k s,ni bs s.i⟩
def R2(bs:List Int)(gap:ByteArray)(n k:Nat)(s s':Ss):Prop:=∃x j,Dr s.e bs (ni bs s.i) 78 (ex3 (1+(nv bs s.i:Int)%3) 3) 64000 x j/\s'=⟨s.e++[(nmB (n+k),1+(nv bs s.i:Int)%3)],s.o++(⟨#[108,101,116,32]⟩++⟨(nmB (n+k)).toArray⟩++⟨#[32,61,32]⟩++x++⟨#[59]⟩++gap),j⟩
def R3(bs:List Int)(gap:ByteArray)(_:Nat)(s s':Ss):Prop:=∃x j,Dr s.e bs (ni bs s.i) 78 (ex3 (1+(nv bs s.i:Int)%3) 4) 256000 x j/\s'=⟨s.e,s.o++(⟨#[111,117,116,32]⟩++x++⟨#[59]⟩++gap),j⟩
theorem QF(aJ:g.size<=8){s}(h:Gs L a9 s):∃f:Nat->Ss,f 0=s/\∀k,Gs (L+k) (a9+k*100) (f k)/\R1 bs g k (f k) (f (k+1)):=
 O9 (G:=λk=>Gs (L+k) (a9+k*100)) (λk a bg=>by
  have:=(bg.put k (1+(nv bs a.i:Int)%3) (inX bs g k a) (ni bs a.i) (z:=100) (by
   grind[yp,jS,inX,fX]))
  rw[show L+k+1=L+(k+1) by omega,show a9+k*100+100=a9+(k+1)*100 by omega]at this
  exact⟨_,this,rfl⟩) h
theorem QG(hb:∀i,nv bs i<256)(aJ:g.size<=8){s}(n)(h:Gs L a9 s):∃f:Nat->Ss,f 0=s/\∀k,Gs (L+k) (a9+k*64100) (f k)/\R2 bs g n k (f k) (f (k+1)):=
 O9 (G:=λk=>Gs (L+k) (a9+k*64100)) (λk a bg=>by
  obtain⟨x,j,aK⟩:=Jq bg.2.1 hb 3 xab _ (nv3 (bs:=bs) a.i) (ni bs a.i)
  have an:=aK.1
  have:=(bg.put (n+k) (1+(nv bs a.i:Int)%3) (⟨#[108,101,116,32]⟩++⟨(nmB (n+k)).toArray⟩++⟨#[32,61,32]⟩++x++⟨#[59]⟩++g) j (z:=64100) (by
   grind[yp,fX]))
  rw[show L+k+1=L+(k+1) by omega,show a9+k*64100+64100=a9+(k+1)*64100 by omega]at this
  exact⟨_,this,x,j,aK,rfl⟩) h
theorem QH(hb:∀i,nv bs i<256)(aJ:g.size<=8){s}(h:Gs L a9 s):∃f:Nat->Ss,f 0=s/\∀k,Gs L (a9+k*256100) (f k)/\R3 bs g k (f k) (f (k+1)):=
 O9 (G:=λk=>Gs L (a9+k*256100)) (λk a bg=>by
  obtain⟨x,j,aK⟩:=Jq bg.2.1 hb 4 xab _ (nv3 (bs:=bs) a.i) (ni bs a.i)
  have an:=aK.1
  exact⟨⟨_,_,j⟩,⟨bg.1,bg.2.1,by
   have:=bg.2.2
   grind[fX]⟩,x,j,aK,rfl⟩) h
variable{bs:List Int}
def pr(l:List (List UInt8)):Array Value:=(l.map λx=>Value.string ⟨x.toArray⟩).toArray
def gapL:List (List UInt8):=[[32],[10],[32,32,35,32,61,32,59,10]]
def bodL:List (List UInt8):=[[112,42,112,32,43,32,49],[101,120,112,40,45,112,41],[112,32,47,32,40,49,32,43,32,112,42,112,41],[109,97,120,40,112,44,32,45,112,41],[103,114,97,100,40,115,117,109,40,112,42,112,42,112,41,44,32,112,41]]
theorem rH{W p}(k:Kept P (P+1) (w.alloc (.cells (pr l) p)) W)(aM:P<w.heap.size){m}(am:m<l.length):W.cell? ⟨w.heap.size,m,none⟩=some (.string ⟨(l.getD m []).toArray⟩):=by
 rw[k.cell (p:=⟨w.heap.size,m,none⟩) xac (by show ¬(P<=w.heap.size/\w.heap.size<P+1);omega),yav];simp[pr,List.getD_eq_getElem?_getD,List.getElem?_eq_getElem am]
theorem Jy(h:∀x∈l,x.length<=z)(m):(⟨(l.getD m []).toArray⟩:ByteArray).size<=z:=by
 rw[fX,yai];cases e:l[m]? with
 |none=>exact yae
 |some x=>exact h x (List.mem_of_getElem? e)
def SrO(w:World)(P n cap:Nat)(a:Option Addr)(bs:List Int)(j:Nat)(t:List UInt8)(e:Ending)(w':World):Prop:=∃g c,e=.returned (.slice (some ⟨g,0,none⟩) t.length c)/\t.length<=c/\YS w' (some ⟨g,0,none⟩) t.length (gV t)/\RdF w' P a n cap j bs/\Kept P (P+1) w w'
theorem Sw.start{W i env u}(aM:RdF W P a n cap i bs)(own:W.ownsRow w.heap.size 130 2 u env.length (flE env))(S:Kept P (P+1) w W)(bK:P<w.heap.size):E (Sw w P n cap W.heap.size a bs i env u (W.alloc (.cells (pr nmL) 9))):=
 have k:=ez 0 0 W (.cells (pr nmL) 9)
 ⟨aM.keep0 k,eO own k,λ_ am=>rH (l:=nmL) (Kept.refl P _ _) (yak bK S.size) am,by simp,S.size,bK,λe=>hJ ((eH own e).2),S.trans (e8 k)⟩
def rpX(gap:ByteArray)(c:Nat)(nl:List UInt8)(x:ByteArray):ByteArray:=⟨#[114,101,112,101,97,116,32]⟩++⟨(gO (c/5%4)).toArray⟩++⟨#[32]⟩++⟨nl.toArray⟩++⟨#[32,61,32]⟩++x++⟨#[59]⟩++gap
def hd0(body gap:ByteArray):ByteArray:=⟨#[]⟩++(⟨#[100,101,102,32,102,40,112,41,32,61,32]⟩++body++⟨#[59]⟩++gap)
theorem Fo(W)(bv:List UInt8):(convert 9 22 (.string ⟨bv.toArray⟩)).run prog W=.ok (hz W.heap.size bv.length (grownCap W bv.length 0 5)) (Lib.bytesWorld W 5 ⟨bv.toArray⟩):=
 Lib.run_convert_string_bytes (P:=prog) W 9 22 5 ⟨bv.toArray⟩ underlying9 underlying22 underlying5
theorem WkM{y:Prop}(h:y:=by
  try dsimp only at e4
  go_upto_region 31 with (go_at_call 15;refine yaj (Sw.next ao) ?_;rintro e aF ⟨rfl,aW⟩;clear ao;have ao:E _:=aW;clear aW);go_wp2_with fail;go_loopw [6,19] (λo t W=>∃k:Nat,k<=m3/\t=hA k/\o=.string (f3 k).o/\E (Sw w P n cap T a bs (f3 k).i (f3 k).e (.slice aE (f2 mm).e.length cE) W)) (λ_ t _=>m3-(intOf t).toNat)
  case atStart=>
   have ae:=H3.o.1;exact⟨0,yae,rfl,by rw[ae],hL ae ao.o⟩
  case round=>
   obtain⟨k,O,rfl,rfl,aW⟩:=hrel;clear ao;by_cases aG:k<m3
   ·have bg:=(H3.o.2 k).1;have j:=(H3.o.2 (k+1)).1;obtain⟨x,v,bl,aD⟩:=(H3.o.2 k).2
    have z:((f3 k).o++(⟨#[111,117,116,32]⟩++x++⟨#[59]⟩++g)).size<=1000000:=by
     exact xgc
    have aQ:(⟨#[111,117,116,32]⟩++x++⟨#[59]⟩++g:ByteArray).size<=1000000:=by rw[yar]at z;omega
    have bY:E _:=aD;have i:E _:=aW.o;clear bg j aD aW;generalize f3 k=s at*;have an:=hb s.i;repeat (rw[yar]at z;refine sz2 z ?_;clear z;intro _ z)
    repeat (rw[yar]at aQ;refine sz2 aQ ?_;clear aQ;intro _ aQ)
    go_wp2_with (first
     |(go_at_call 15;refine yaj (Sw.next i) ?_;rintro e bk ⟨rfl,aW⟩;clear i;have i:E _:=aW;clear aW)
     |(go_at_call 78;have bu:=Sw.call i HL.o bl;simp only[ex3]at bu;(with_reducible refine yaj bu ?_);clear bu;rintro e ag ⟨rfl,aW,-⟩;clear i;have i:E _:=aW;clear aW))
    go_roundw
    case rel=>
     refine⟨k+1,by omega,by go_num,?_,?_⟩
     ·rw[bY.o]
     rw[bY.o];exact i.o
    case measure=>simp[intOf];omega
   have bP:k=m3:=xaa;have ao:E _:=aW.o;clear aW O aG;rw[bP]at ao⊢;clear bP k;subst hj;have C:¬((m3:Int)<m3):=xaa;have am:=Fo wr t;have b9:E _:=qF wr 5 t;have q:E _:=mP wr 5 ⟨t.toArray⟩;generalize Lib.bytesWorld wr 5 ⟨t.toArray⟩=bp at am b9 q;have f:E _:=grownCap_ge wr t.length 0 5;generalize grownCap wr t.length 0 5=bV at am f;rcases ht.o with⟨a6,p⟩|⟨a6,p⟩
   ·rw[p]at am;have cg:¬(4000<((f3 m3).o.size:Int)):=xaa;clear p;go_wp2;go_ret;exact⟨_,bV,rfl,f.o,b9.o,ao.o.rd.keep0 q.o,ao.o.kp.trans (e8 q.o)⟩
   rw[p]at am;have cg:4000<((f3 m3).o.size:Int):=xaa;clear p;go_wp2;go_ret;exact⟨_,bV,rfl,f.o,b9.o,ao.o.rd.keep0 q.o,ao.o.kp.trans (e8 q.o)⟩):y:=h
theorem WkL{y:Prop}(h:y:=by
  have bm:E _:=iX _ _ _ _ _ _ _ HR.o;go_upto_region 11 with (go_at_call 15;refine yaj bm.o ?_;rintro e aF ⟨rfl,K,bU,-⟩;have ao:E _:=Sw.start K (f9 HO.o bU λ_ e=>.inr (hJ ((eH HO.o e).1))) (HK.o.trans bU) hP;clear K bU);clear bm HO HR HK;go_upto_region 12 with fail;change Code.wp _ _ _ _ (aF.alloc (.cells (pr nmL) 9));generalize aF.alloc (.cells (pr nmL) 9)=f at*;generalize aF.heap.size=T at*;go_wp2_with fail;go_loopw [5,6,11] (λu o t W=>∃k:Nat,k<=nn/\t=hA k/\o=.string (f1 k).o/\E (Sw w P n cap T a bs (f1 k).i (f1 k).e u W)) (λ_ _ t _=>nn-(intOf t).toNat)
  case atStart=>
   have e:=HE.o;have ae:=H1.o.1;subst e;exact⟨0,yae,rfl,by rw[ae],hL ae ao.o⟩
  case round=>
   obtain⟨k,O,rfl,rfl,aW⟩:=hrel;clear ao HE;by_cases aG:k<nn
   ·have bg:=(H1.o.2 k).1;have j:=(H1.o.2 (k+1)).1;have aD:=(H1.o.2 k).2
    have z:((f1 k).o++inX bs g k (f1 k)).size<=1000000:=by
     exact xgc
    have aQ:(inX bs g k (f1 k)).size<=1000000:=by rw[yar]at z;omega
    have be:E _:=bg;have bY:E _:=aD;have i:E _:=aW.o;clear bg j aD aW;unfold R1 inX at bY;unfold inX at z aQ;generalize f1 k=s at*;have an:=hb s.i
    have HD:E (∀W:World,Calls prog 77 #[hA (1+(nv bs s.i:Int)%3)] W λe B=>e=.returned (eN (gO (1+nv bs s.i%3)))/\B=W):=λW=>by
     rw[show(1:Int)+(nv bs s.i:Int)%3=((1+nv bs s.i%3:Nat):Int) by omega]
     exact yN _ _ yad xaa W
    unfold eN at HD;generalize (⟨(gO (1+nv bs s.i%3)).toArray⟩:ByteArray)=N at HD bY z aQ;go_upto_region 16 with (go_at_call 15;refine yaj (Sw.next i) ?_;rintro e bk ⟨rfl,aW⟩;clear i;have i:E _:=aW;have R:=aW.tb k xaa;clear aW);change bk.cell? ⟨T,k,none⟩=some (.string ⟨(nmB k).toArray⟩)at R;generalize Q:(⟨(nmB k).toArray⟩:ByteArray)=H at R bY z aQ;repeat (rw[yar]at z;refine sz2 z ?_;clear z;intro _ z)
    repeat (rw[yar]at aQ;refine sz2 aQ ?_;clear aQ;intro _ aQ)
    have aj:(k:Int)<7:=xaa;go_quiet ((go_at_call 77;exact Calls.quiet_of_same (HD.o _)))
    have bq:E (∀(m:Nat) (o:Obj),Sw w P n cap T a bs (ni bs s.i) s.e u5 ((bk.alloc o).drewN m)):=λm o=>(i.o.keep0 (ez 0 0 _ o)).keep0 (eJ 0 0 _ m);have HC:E (∀m,((bk.alloc (.cells #[.string H,hA (1+(nv bs s.i:Int)%3)] 130)).drewN m).cell? ⟨bk.heap.size,0,none⟩=some (.string ⟨(nmB k).toArray⟩)/\((bk.alloc (.cells #[.string H,hA (1+(nv bs s.i:Int)%3)] 130)).drewN m).cell? ⟨bk.heap.size,1,none⟩=some (hA (1+(nv bs s.i:Int)%3))):=λm=>by rw[Q];exact⟨by simp,by simp⟩
    have HL:E (s.e.length+1<=1000):=by have:=be.o.1;show _<=_;omega
    go_wp2_with (at_builtin;refine l9 _ rfl _ _ rfl w.heap.size u5 s.e rfl (bq.o _ _).own bk.heap.size (nmB k,1+(nv bs s.i:Int)%3) rfl (HC.o _).1 (HC.o _).2 HL.o (yao i.o.wl (Nat.le_of_lt (bq.o _ _).tl)) ?_;intro g9 bd n9 bj aw G r bT;have J:E _:=(bq.o _ _).app _ aw G r bT;clear aw G r bT);exact xfs
   have bP:k=nn:=xaa;have ao:E _:=aW.o;clear aW O aG;rw[bP]at ao⊢;clear bP k;go_upto_region 19 with (go_at_call 15;refine yaj (Sw.next ao) ?_;rintro e aF ⟨rfl,aW⟩;clear ao;have ao:E _:=aW;clear aW);rw[em];go_wp2_with fail;go_loopw [5,6,14] (λu o t W=>∃k:Nat,k<=mm/\t=hA k/\o=.string (f2 k).o/\E (Sw w P n cap T a bs (f2 k).i (f2 k).e u W)) (λ_ _ t _=>mm-(intOf t).toNat)
   case atStart=>
    have ae:=H2.o.1;exact⟨0,yae,rfl,by rw[ae],hL ae ao.o⟩
   case round=>
    obtain⟨k,O,rfl,rfl,aW⟩:=hrel;clear ao;by_cases aG:k<mm
    ·have bg:=(H2.o.2 k).1;have j:=(H2.o.2 (k+1)).1;obtain⟨x,v,bl,aD⟩:=(H2.o.2 k).2
     have z:((f2 k).o++(⟨#[108,101,116,32]⟩++⟨(nmB (nn+k)).toArray⟩++⟨#[32,61,32]⟩++x++⟨#[59]⟩++g)).size<=1000000:=by
      exact xgc
     have aQ:(⟨#[108,101,116,32]⟩++⟨(nmB (nn+k)).toArray⟩++⟨#[32,61,32]⟩++x++⟨#[59]⟩++g:ByteArray).size<=1000000:=by rw[yar]at z;omega
     have be:E _:=bg;have bY:E _:=aD;have i:E _:=aW.o;obtain⟨aE,cE,aB⟩:=aW.o.form;subst aB;clear bg j aD aW;generalize f2 k=s at*;have an:=hb s.i;have cc:(nn:Int)+k<7:=xaa;have C:(k:Int)<mm:=xaa;have HL:E (s.e.length<=100):=by have:=be.o.1;show _<=_;omega
     go_upto_region 24 with (first
      |(go_at_call 15;refine yaj (Sw.next i) ?_;rintro e bk ⟨rfl,aW⟩;clear i;have i:E _:=aW;clear aW)
      |(go_at_call 78;have bu:=Sw.call i HL.o bl;simp only[ex3]at bu;(with_reducible refine yaj bu ?_);clear bu;rintro e ag ⟨rfl,aW,-⟩;clear i;have i:E _:=aW;have R:=aW.tb (nn+k) xaa;clear aW))
     change ag.cell? ⟨T,nn+k,none⟩=some (.string ⟨(nmB (nn+k)).toArray⟩)at R;generalize Q:(⟨(nmB (nn+k)).toArray⟩:ByteArray)=H at R bY z aQ;repeat (rw[yar]at z;refine sz2 z ?_;clear z;intro _ z)
     repeat (rw[yar]at aQ;refine sz2 aQ ?_;clear aQ;intro _ aQ)
     have bq:E (∀(o:Obj),Sw w P n cap T a bs v s.e _ (ag.alloc o)):=λo=>i.o.keep0 (ez 0 0 _ o);have HC:E ((ag.alloc (.cells #[.string H,hA (1+(nv bs s.i:Int)%3)] 130)).cell? ⟨ag.heap.size,0,none⟩=some (.string ⟨(nmB (nn+k)).toArray⟩)/\(ag.alloc (.cells #[.string H,hA (1+(nv bs s.i:Int)%3)] 130)).cell? ⟨ag.heap.size,1,none⟩=some (hA (1+(nv bs s.i:Int)%3))):=by rw[Q];exact⟨by simp,by simp⟩
     have S:E (s.e.length+1<=1000):=by have:=be.o.1;show _<=_;omega
     go_wp2_with (at_builtin;refine l9 _ rfl _ _ rfl w.heap.size (.slice aE s.e.length cE) s.e rfl (bq.o _).own ag.heap.size (nmB (nn+k),1+(nv bs s.i:Int)%3) rfl HC.o.1 HC.o.2 S.o (yao i.o.wl (Nat.le_of_lt (bq.o _).tl)) ?_;intro g9 bd n9 bj aw G r bT;have J:E _:=(bq.o _).app _ aw G r bT;clear aw G r bT);exact xfs
    have bP:k=mm:=xaa;have ao:E _:=aW.o;clear aW O aG;rw[bP]at ao⊢;clear bP k;have C:¬((mm:Int)<mm):=xaa;have U:E ((f2 mm).o.size<=200000):=yao (H2.o.2 mm).1.2.2 xaa;have HL:E ((f2 mm).e.length<=100):=by have:=(H2.o.2 mm).1.1;show _<=_;omega
    rcases h3.o with⟨cT,ai⟩|⟨a6,cT,es,p,q,x,v,al,bl,ad,ai⟩
    ·rcases (by omega:mm=0\/(0<mm/\¬(c:Int)%5=1)) with a6|⟨a6,Y⟩
     ·have cI:¬(0<(mm:Int)):=xaa;clear a6 cT;exact xhg
     have cI:0<(mm:Int):=xaa;exact xhg
    have cI:0<(mm:Int):=xaa;obtain⟨X,cE,aB,ba,aP⟩:=ao.o.last al;subst aB;have ab:((f2 mm).e.length:Int)-1=(es.length:Int):=by rw[al,yal];simp
    have aa:(es.length:Int)<((f2 mm).e.length:Int):=xaa;clear al;have Z:=HL.o;go_upto_region 28 with fail;have au:E _:=ao.o.keep0 (ez 0 0 wr (.cells #[.string ⟨p.toArray⟩,hA q] 130))
    have aV:E (∀I,Kept P (P+1) (wr.alloc (.cells #[.string ⟨p.toArray⟩,hA q] 130)) I->I.cell? ⟨wr.heap.size,0,none⟩=some (.string ⟨p.toArray⟩)):=λI k=>by
     have F:=ao.o.rd.lt
     rw[k.cell (p:=⟨wr.heap.size,0,none⟩) xac (by show ¬(P<=wr.heap.size/\wr.heap.size<P+1);omega)]
     simp
    have z:((f2 mm).o++rpX g c p x).size<=1000000:=by have:=U.o;rw[yar];omega
    have aQ:(rpX g c p x).size<=1000000:=xaa
    have HD:E (∀W:World,Calls prog 77 #[hA ((c:Int)/5%4)] W λe B=>e=.returned (eN (gO (c/5%4)))/\B=W):=λW=>by
     rw[show(c:Int)/5%4=((c/5%4:Nat):Int) by omega]
     exact yN _ _ yad xaa W
    unfold rpX at z aQ ai;unfold eN at HD;generalize (⟨(gO (c/5%4)).toArray⟩:ByteArray)=N at HD ai z aQ;generalize (⟨p.toArray⟩:ByteArray)=H at aV au ai z aQ⊢;go_upto_region 29 with (go_at_call 78;have bu:=Sw.call au HL.o bl;simp only[ex3]at bu;(with_reducible refine yaj bu ?_);clear bu;rintro e ag ⟨rfl,aW,aM⟩;have y2:=aV.o ag aM;clear ao au;have ao:E _:=aW;clear aW aM);repeat (rw[yar]at z;refine sz2 z ?_;clear z;intro _ z)
    repeat (rw[yar]at aQ;refine sz2 aQ ?_;clear aQ;intro _ aQ)
    go_quiet ((go_at_call 77;exact Calls.quiet_of_same (HD.o _)))
    go_upto_region 30 with fail;subst ai;replace ao:E _:=ao.o.keep0 (eJ 0 0 ag nq);(try unfold hz at ao);(try unfold hz);generalize some (⟨X,0,none⟩:Addr)=aE at ao⊢;exact WkM):y:=h
theorem QI(hb:∀i,nv bs i<256){i f c:Nat}(ah:nv bs (ni bs i)=c)(J:f<3)(bM:(nv bs i:Int)%3=(f:Int))(o:g.size<=8)(u:⟨(gapL.getD f []).toArray⟩=g)
  {C}{aL:Nat} (bY:(c:Int)/2%5=(aL:Int)) (y:aL<5) (H:⟨(bodL.getD aL []).toArray⟩=C) (Y:C.size<=30)
  {aZ:Ss} (al:((c:Int)%2=1/\E (aZ=⟨[([102],0)],hd0 C g,ni bs (ni bs i)⟩))\/((c:Int)%2=0/\E (aZ=⟨[],⟨#[]⟩,ni bs (ni bs i)⟩)))
  {f1:Nat->Ss}{F I} (H1:E (f1 0=⟨aZ.e,aZ.o,ni bs aZ.i⟩/\∀k,Gs (F+k) (I+k*100) (f1 k)/\R1 bs g k (f1 k) (f1 (k+1)))) (B:F<=1) (U:I<=1000)
  {nn:Nat} (aS:1+(nv bs (ni bs (ni bs i)):Int)%3=(nn:Int)) (_hn3:nn<=3)
  {f2:Nat->Ss}{L2 O} (H2:E (f2 0=⟨(f1 nn).e,(f1 nn).o,ni bs (f1 nn).i⟩/\∀k,Gs (L2+k) (O+k*64100) (f2 k)/\R2 bs g nn k (f2 k) (f2 (k+1)))) (s:L2<=4) (Z:O<=2000)
  {mm:Nat} (em:(nv bs (f1 nn).i:Int)%4=(mm:Int)) (_hm3:mm<=3)
  {bx} (h3:E (((mm=0\/¬(c:Int)%5=1)/\bx=f2 mm)\/(0<mm/\(c:Int)%5=1/\∃es p q x v,(f2 mm).e=es++[(p,q)]/\Dr (f2 mm).e bs (f2 mm).i 78 (ex3 q 2) 16000 x v/\(rpX g c p x).size<=100000/\bx=⟨(f2 mm).e,(f2 mm).o++rpX g c p x,v⟩)))
  {f3:Nat->Ss}{h Q} (H3:E (f3 0=⟨bx.e,bx.o,ni bs bx.i⟩/\∀k,Gs h (Q+k*256100) (f3 k)/\R3 bs g k (f3 k) (f3 (k+1)))) (_hL3:h<=10) (aa:Q<=220000)
  {m3:Nat} (e4:1+(nv bs bx.i:Int)%3=(m3:Int)) (S:m3<=3)
  {t}{j} (hj:j=(f3 m3).i) (ht:E (((f3 m3).o.size<=4000/\⟨t.toArray⟩=(f3 m3).o)\/(4000<(f3 m3).o.size/\⟨t.toArray⟩=(f3 m3).o.extract 0 4000))) (K:RdF w P a n cap i bs):Calls prog 42 #[hy P] w (SrO w P n cap a bs j t):=by
 have hP:=K.lt;have R:(c:Int)<256:=hJ (hb (ni bs i))
 have ao:E _:=K;clear K;go_enter func42,ntmps42;go_upto_region 2 with fail;change Code.wp _ _ _ _ (w.alloc (.cells (pr gapL) 9));have aj:E _:=ao.o.keep0 (ez 0 0 w (.cells (pr gapL) 9));have bm:E _:=iX _ _ _ _ _ _ _ aj.o;have aV:E (∀W,Kept P (P+1) (w.alloc (.cells (pr gapL) 9)) W->_):=λW k=>rH (l:=gapL) (m:=f) k hP J;have HK:E _:=ez P (P+1) w (.cells (pr gapL) 9);clear ao aj;generalize w.alloc (.cells (pr gapL) 9)=az at*;rw[u]at aV;clear u;go_upto_region 5 with (go_at_call 15;refine yaj bm.o ?_;rintro e bS ⟨rfl,K,ak,-⟩;have aJ:=aV.o bS ak;have bB:E _:=HK.o.trans ak;have HN2:E _:=iX _ _ _ _ _ _ _ K;clear K ak);clear aJ aV bm HK;rw[ah]at HN2;rcases al with⟨c2,HE⟩|⟨c2,HE⟩
 ·go_upto_region 7 with (go_at_call 15;refine yaj HN2.o ?_;rintro e aB ⟨rfl,(X:E _),aR,-⟩;have aK:E _:=bB.o.trans aR;have N:=X.o.lt;clear aR);clear HN2 bB;go_upto_region 8 with fail;change Code.wp _ _ _ _ (aB.alloc (.cells (pr bodL) 9));have au:=rH (l:=bodL) (m:=aL) (Kept.refl P (P+1) (aB.alloc (.cells (pr bodL) 9))) N y;rw[H]at au;have m:E _:=X.o.keep0 (ez 0 0 aB (.cells (pr bodL) 9));have bO:E _:=aK.o.trans (ez _ _ aB (.cells (pr bodL) 9));clear X aK;generalize aB.alloc (.cells (pr bodL) 9)=bc at*
  have z:(hd0 C g).size<=1000:=by
   simp only[hd0,yar,fX,yaq,List.length_nil];omega
  unfold hd0 at z HE;have aQ:(⟨#[100,101,102,32,102,40,112,41,32,61,32]⟩++C++⟨#[59]⟩++g:ByteArray).size<=1000000:=by rw[yar]at z;omega
  replace z:=yao z (by decide:1000<=1000000);repeat (rw[yar]at z;refine sz2 z ?_;clear z;intro _ z)
  repeat (rw[yar]at aQ;refine sz2 aQ ?_;clear aQ;intro _ aQ)
  have bQ:=ez 0 0 bc (.cells #[.string ⟨#[102]⟩,hA 0] 130);have d2:E _:=m.o.keep0 bQ;have co:E _:=bO.o.trans (e8 bQ);clear m bO;have ai:=co.o.size;go_upto_region 10 with (at_builtin;refine l9 _ rfl _ _ rfl w.heap.size iz [] rfl (yaw _ _ _ _) bc.heap.size ([102],0) rfl xac xac xab ai ?_;intro g9 bd n9 aW aw G r _;subst aw;have aM:Kept 0 0 _ aW:=⟨r.os,r.tape,r.output,r.size,λb hb _=>r.block b hb (λe=>by cases e)⟩;have HO:E (aW.ownsRow w.heap.size 130 2 (hz g9 1 bd) ([([102],0)]:List (List UInt8×Int)).length (flE [([102],0)])):=G;have HR:E _:=d2.o.keep0 aM;have HK:E _:=co.o.trans (e8 aM);clear r aM G);clear d2 co ai z aQ;exact WkL
 go_upto_region 10 with (go_at_call 15;refine yaj HN2.o ?_;rintro e aB ⟨rfl,(HR:E _),aR,-⟩;have HK:E _:=bB.o.trans aR;clear aR);have HO:E (aB.ownsRow w.heap.size 130 2 (.slice none 0 0) ([]:List (List UInt8×Int)).length (flE [])):=yaw aB w.heap.size 130 2;clear HN2 bB;exact WkL
end
section
variable{bs:List Int}
theorem QJ(hb:∀i,nv bs i<256)(i):∃(t:List UInt8) (j:Nat),t.length<=4000/\∀{w:World}{P n cap:Nat}{a:Option Addr},RdF w P a n cap i bs->Calls prog 42 #[hy P] w (SrO w P n cap a bs j t):=by
 obtain⟨f,J,bM⟩:∃k:Nat,k<3/\(nv bs i:Int)%3=k:=⟨nv bs i%3,by omega,by omega⟩
 obtain⟨c,ah⟩:∃c,nv bs (ni bs i)=c:=⟨_,rfl⟩
 have Z:=hb (ni bs i);rw[ah]at Z;obtain⟨aL,y,bY⟩:∃k:Nat,k<5/\c/2%5=(k:Int):=⟨c/2%5,by omega,by omega⟩
 have o:=Jy (l:=gapL) (z:=8) xab f;have Y:=Jy (l:=bodL) (z:=30) xab aL;generalize u:(⟨_⟩:ByteArray)=g at o;generalize H:(⟨_⟩:ByteArray)=C at Y
 obtain⟨aZ,gf,al,bP,r⟩:∃aZ L,(((c:Int)%2=1/\E (aZ=⟨[([102],0)],hd0 C g,ni bs (ni bs i)⟩))\/((c:Int)%2=0/\E (aZ=⟨[],⟨#[]⟩,ni bs (ni bs i)⟩)))/\Gs L 1000 aZ/\L<=1:=by
  rcases (by omega:(c:Int)%2=1\/(c:Int)%2=0) with h|h
  ·exact⟨_,1,.inl ⟨h,rfl⟩,⟨rfl,by simp_all,by grind[hd0,fX,yaq]⟩,by decide⟩
  exact⟨_,0,.inr ⟨h,rfl⟩,⟨rfl,(λ_ h=>by cases h),yae⟩,by decide⟩
 obtain⟨f1,l⟩:=QF (bs:=bs) o (s:=⟨aZ.e,aZ.o,ni bs aZ.i⟩) bP;have B:aZ.i=ni bs (ni bs i):=by rcases al with h|h<;>rw[h.2.o]
 obtain⟨nn,cP,aS⟩:∃n:Nat,n<=3/\1+(nv bs (ni bs (ni bs i)):Int)%3=n:=⟨1+nv bs (ni bs (ni bs i))%3,by omega,by omega⟩
 obtain⟨f2,e⟩:=QG hb o (s:=⟨(f1 _).e,(f1 nn).o,ni bs (f1 nn).i⟩) nn (l.2 _).1;obtain⟨mm,I,em⟩:∃n:Nat,n<=3/\(nv bs (f1 nn).i:Int)%4=n:=⟨nv bs (f1 nn).i%4,by omega,by omega⟩
 have aN:=(e.2 mm).1
 obtain⟨bx,h3,be⟩:∃bx:Ss,(((mm=0\/¬(c:Int)%5=1)/\bx=f2 _)\/(0<mm/\(c:Int)%5=1/\∃es p q x v,(f2 mm).e=es++[(p,q)]/\Dr (f2 mm).e bs (f2 mm).i 78 (ex3 q 2) 16000 x v/\(rpX g c p x).size<=100000/\bx=⟨(f2 mm).e,(f2 mm).o++rpX g c p x,v⟩))/\Gs _ 220000 bx:=by
  by_cases h:mm=0\/¬(c:Int)%5=1
  ·exact⟨_,.inl ⟨h,rfl⟩,aN.1,aN.2.1,yao aN.2.2 xaa⟩
  obtain⟨m,rfl⟩:∃m,mm=m+1:=⟨mm-1,by omega⟩
  obtain⟨bz,bm,_,b9⟩:=(e.2 m).2;obtain⟨x,v,aK⟩:=Jq aN.2.1 hb 2 xab _ (nv3 (bs:=bs) (f2 m).i) (f2 (m+1)).i
  have z:(rpX g c (nmB (nn+m)) x).size<=17000:=by
   have:=aK.1;have:=yp (nn+m);have:=jS (c/5%4);simp only[rpX,yar,fX,yaq,List.length_nil];omega
  exact⟨_,.inr ⟨by omega,by omega,_,_,_,x,_,by rw[b9],aK,by omega,rfl⟩,aN.1,aN.2.1,by have:=aN.2.2;grind⟩
 obtain⟨f3,s⟩:=QH hb o (s:=⟨bx.e,bx.o,ni bs bx.i⟩) be;obtain⟨m3,S,e4⟩:∃n:Nat,n<=3/\1+(nv bs bx.i:Int)%3=n:=⟨1+nv bs bx.i%3,by omega,by omega⟩
 obtain⟨t,a6,ht⟩:∃t:List _,t.length<=4000/\(((f3 _).o.size<=4000/\⟨t.toArray⟩=(f3 _).o)\/(4000<(f3 m3).o.size/\⟨t.toArray⟩=(f3 _).o.extract 0 _)):=by
  by_cases h:(f3 m3).o.size<=4000
  ·exact⟨_,h,.inl ⟨h,rfl⟩⟩
  exact⟨((f3 m3).o.extract 0 4000).data.toList,by show ByteArray.size _<=_;rw[ByteArray.size_extract];omega,.inr ⟨by omega,rfl⟩⟩
 exact⟨t,_,a6,λK=>QI hb ah J bM o u bY y H Y al l r yad aS cP e xaa xaa em I h3 s xaa yad e4 S rfl ht K⟩
end
section
attribute[local go_sem] eF eE eD
variable{w:World}{ins:List Int}{q aV o n j k m D:Nat}{r:List (List Nat)}{ss:List Ste}{bG:List Spn}{zs xs aa:List Nat}{s:Ste}
def seg(zs:List Nat)(o m:Nat):List Nat:=(zs.drop o).take m
theorem sI(h:o+m<=zs.length):(seg zs o m).length=m:=by simp[seg];omega
theorem BW(h:k<m):(seg zs o m).getD k 0=zs.getD (o+k) 0:=by
 simp_all[seg]
theorem yq(h:∀z∈zs,z<18446744073709551616)(o m):∀z∈seg zs o m,z<18446744073709551616:=λz bv=>h z (List.mem_of_mem_drop (List.mem_of_mem_take bv))
def opS(zs:List Nat)(po pm:Nat->Nat)(q:Nat):List (List Nat):=[if 0<q then seg zs (po 0) (pm 0) else[],if 1<q then seg zs (po 1) (pm 1) else[],if 2<q then seg zs (po 2) (pm 2) else[]]
theorem ME(zs I C)(ap:q<3):(opS zs I C q).set q (seg zs (I q) (C q))=opS zs I C (q+1):=by
 grind[opS]
theorem FR.sg{g}(f:FR w g zs)(X:∀z∈zs,z<18446744073709551616){c}(h:o+m<=zs.length)(ah:m<=c):Cl w (.slice (some ⟨g,o,none⟩) m c) (seg zs o m):=
 ⟨_,m,c,_,rfl,ah,⟨sI h,yq X o m,.inr ⟨g,o,rfl,yae,f.lt,f.lt,λk O=>by rw[BW O];exact f.cell _ xaa⟩⟩,rfl⟩
structure KBr(w:World)(p:Nat)(D L op a b c:Int)(K:Nat)(u:Value):Prop where
 lt:p<w.heap.size
 c0:w.cell? ⟨p,0,none⟩=some (.int .i64 D)
 c1:w.cell? ⟨p,1,none⟩=some (.int .i64 L)
 c2:w.cell? ⟨p,2,none⟩=some (.int .i64 op)
 c3:w.cell? ⟨p,3,none⟩=some (.int .i64 L)
 c4:w.cell? ⟨p,4,none⟩=some (.int .i64 a)
 c5:w.cell? ⟨p,5,none⟩=some (.int .i64 b)
 c6:w.cell? ⟨p,6,none⟩=some (.int .i64 c)
 c7:w.cell? ⟨p,7,none⟩=some (.float .f64 K)
 c8:w.cell? ⟨p,8,none⟩=some u
theorem KBr.keep{B p l h D L op a b c K u}(f:KBr w p D L op a b c K u)(k:Kept l h w B)(aK:p<l\/h<=p\/h<=l):KBr B p D L op a b c K u:=by
 have e:∀o,B.cell? _=w.cell? ⟨p,o,none⟩:=λo=>k.cell f.lt (by grind);exact⟨yak f.lt k.size,hL e f.c0,hL e f.c1,hL e f.c2,hL e f.c3,hL e f.c4,hL e f.c5,hL e f.c6,hL e f.c7,hL e f.c8⟩
abbrev Fp(D L op a b c:Int)(K:Nat)(u:Value):Obj:=.cells #[.int .i64 D,.int .i64 L,.int .i64 op,.int .i64 L,.int .i64 a,.int .i64 b,.int .i64 c,.float .f64 K,u] 110
theorem Fq(w:World)(D L op a b c K u):KBr (w.alloc (Fp D L op a b c K u)) w.heap.size D L op a b c K u:=by
 refine⟨by simp,?_,?_,?_,?_,?_,?_,?_,?_,?_⟩;all_goals first|(go_simp;done)|(simp;done)
theorem Cn.pos{lo u}(h:Cn w lo u xs)(L)(bA:xs.length=L)(al:1<=L):∃gk ok c zs,u=.slice (some ⟨gk,ok,none⟩) L c/\zs.length=L/\(∀k,k<L->w.cell? ⟨gk,ok+k,none⟩=some (.float .f64 (zs.getD k 0)))/\(∀z∈zs,z<18446744073709551616)/\gC zs xs:=by
 obtain⟨b,n,c,zs,rfl,N,h3,a6⟩:=h;have e:=i7 a6;have a9:=h3.len;obtain rfl:n=L:=xaa;rcases h3.at_ with z|⟨gk,ok,rfl,_,_,_,a4⟩
 ·omega
 exact⟨_,_,c,_,rfl,a9,a4,h3.lt,a6⟩
theorem cB.qcv(h:Zp:=by
 have am:E (∀B,Kept 0 0 wr B->B.heap[g]? =some (.cells (zs.map (Value.float .f64)).toArray 57 (0,0))):=λB k=>FR.keep (w:=w) (g:=g) (xs:=zs) HF.o (Kept.trans P.o k) yaa;have Y:E (∀aa:List Nat,aa.length=L->D+(aa.map (Value.float .f64)).length<=(zs.map (Value.float .f64)).length):=λaa h=>by rw[List.length_map,List.length_map,h,bv];exact O
 have N:E (∀aa:List Nat,aa.length=L->(aa.map (Value.float .f64)).length=Nat.min L L):=λaa h=>by rw[List.length_map,h];exact(Nat.min_self L).symm
 have ab:E (∀aa:List Nat,∀v∈aa.map (Value.float .f64),v.oneCell'=true):=λaa v aO=>by
  obtain⟨x,_,rfl⟩:=List.mem_map.1 aO
  rfl
 generalize bO:iL op (L:Int) c K ((opS zs I C q).getD 0 []) ((opS zs I C q).getD 1 []) ((opS zs I C q).getD 2 [])=au at HE ah⊢;have co:E _:=bO;have bB:E _:=P.o;clear b9 ae a9 a2 aT P bO bq bN ao;go_wp2_with fail
 go_region_held3 (λB=>B.cell? ⟨w.heap.size,0,none⟩=some (hA D)/\B.cell? ⟨w.heap.size,1,none⟩=some (hA L)/\B.cell? ⟨w.heap.size,2,none⟩=some (hA op)/\B.cell? ⟨w.heap.size,3,none⟩=some (hA L)/\B.cell? ⟨w.heap.size,4,none⟩=some (hA a)/\B.cell? ⟨w.heap.size,5,none⟩=some (hA b)/\B.cell? ⟨w.heap.size,6,none⟩=some (hA c)/\B.cell? ⟨w.heap.size,7,none⟩=some (.float .f64 K)/\B.cell? ⟨w.heap.size+1,0,none⟩=some (.slice bE ci bS)/\B.cell? ⟨w.heap.size+1,1,none⟩=some (.slice R m1 aH)/\B.cell? ⟨w.heap.size+1,2,none⟩=some (.slice aS b7 bf)) (go_keep)
  (first
   |(refine oI rfl (.tmp 26) (.tmp 35) 55 55 rfl 57 underlying55 PX ⟨gk,an,none⟩ L (aV-D) L bd g D rfl rfl (zs.map (Value.float .f64)) 57 (am.o _ J) (aa.map (Value.float .f64)) (N.o aa y2) (sB y2 y3) (Y.o aa y2) (ab.o aa) ?_;intro bc cT bM;obtain⟨bz,bo,bw,bR,cz,b0,aN,a6,bj,bk,bb⟩:=bY.o g (g+1) bc (Kept.trans (J.mono (lo':=g) (hi':=g+1) λb _ c=>by omega) bM) (.inr ⟨yad,yad⟩))
   |(go_at_call 164;refine yaj (HE.o _ af) ?_;rintro e aF ⟨u,rfl,cC,aR⟩;have J:=Kept.trans af aR;obtain⟨gk,an,bd,aa,rfl,y2,y3,y4,ck⟩:=Cn.pos cC L ah.o cf;obtain⟨br,ay,a0,ch,dc,F,al,aD,aP,aQ,az⟩:=bY.o 0 0 aF J (.inl yad))
   |(go_at_call 38;refine yaj (HC.o _) ?_;rintro e ag ⟨rfl,ak⟩;have af:=Kept.trans (eJ 0 0 wr 1) ak;obtain⟨aZ,ax,aU,bx,cD,cJ,cl,dv,a8,aq,a5⟩:=bY.o 0 0 ag af (.inl yad)))
 all_goals
  have H:E (FR bc g (splice zs D aa)):=by
   show _=_
   rw[<-uw]
   exact cT.o
  have R2:E _:=Kept.trans (bB.o.mono (lo':=g) (hi':=g+1) λb _ c=>by omega) (Kept.trans (J.mono (lo':=g) (hi':=g+1) λb _ c=>by omega) bM)
  go_end0
  exact⟨rfl,⟨aa,H.o,hL co.o ck,y4⟩,R2.o⟩):Zp:=h
open cB in
theorem Jz(w g aV zs)(aX:FR w g zs)(bv:zs.length=aV)(bC:aV<=50000)(X:∀z∈zs,z<18446744073709551616)(bW m cb op a b c K)(aI:K<18446744073709551616)(D L n G)(ad:n<=3)(cf:1<=L)(O:D+L<=aV)(I C)
  (bg:G<w.heap.size) (aW:∀q,q<n->AtP w G (q*2) ⟨(I q:Int),(C q:Int)⟩) (y:∀q,q<n->1<=C q/\I q+C q<=aV) (U:(iL op (L:Int) c K ((opS zs I C n).getD 0 []) ((opS zs I C n).getD 1 []) ((opS zs I C n).getD 2 [])).length=L):
  Calls prog 162 #[.agg #[hA D,hA L,hA op,hA L,hA a,hA b,hA c,.float .f64 K,hz G n 3],hz g aV aV,.slice bW m cb] w λe B=>e=.returned (.tuple #[])/\(∃aa,FR B g (splice zs D aa)/\gC aa (iL op (L:Int) c K ((opS zs I C n).getD 0 []) ((opS zs I C n).getD 1 []) ((opS zs I C n).getD 2 []))/\(∀x∈aa,x<18446744073709551616))/\Kept g (g+1) w B:=by
 have aw:=ez 0 0 w (Fp (D:Int) (L:Int) op a b c K (hz G n 3));have ak:=ez 0 0 (w.alloc (Fp (D:Int) (L:Int) op a b c K (hz G n 3))) (.cells #[.slice none 0 0,.slice none 0 0,.slice none 0 0] 215);have cI:(w.alloc (Fp (D:Int) (L:Int) op a b c K (hz G n 3))).heap.size=w.heap.size+1:=by simp
 have a2:=Ec (w.alloc (Fp (D:Int) (L:Int) op a b c K (hz G n 3)));rw[cI]at a2;have bl:E (LV _ (w.heap.size+1) 3 3 (opS zs I C 0)):=a2;have av:E _:=(Fq w (D:Int) (L:Int) op a b c K (hz G n 3)).keep ak yaa;have HK:E _:=aw.trans ak;have be:E (G<w.heap.size/\g<w.heap.size):=⟨bg,aX.lt⟩
 have HF:E (FR w g zs):=aX;have ao:E _:=aW;have bN:E _:=y;have bq:E _:=X;have ah:E _:=U;clear aw ak cI a2 aX aW y X U bg;obtain⟨_,aY,aC,aL,b1,ba,cn,bF,ai,ar⟩:=av.o;go_enter func162,ntmps162;go_wp2_with fail;clear aY aC aL b1 ba cn bF ai ar;generalize (w.alloc (Fp (D:Int) (L:Int) op a b c K (hz G n 3))).alloc (.cells #[.slice none 0 0,.slice none 0 0,.slice none 0 0] 215)=aA at bl av HK⊢;go_loopw [12] (λi W=>∃q:Nat,q<=n/\i=hA q/\E (LV W (w.heap.size+1) 3 3 (opS zs I C q))/\E (KBr W w.heap.size (D:Int) (L:Int) op a b c K (hz G n 3))/\E (Kept 0 0 w W)) (λi _=>n-(intOf i).toNat)
 case atStart=>grind
 case round=>
  obtain⟨q,ap,rfl,a2,aT,P⟩:=hrel;clear bl av HK;by_cases aG:q<n
  ·have a7:=(ao.o q aG).keep be.o.1 P.o yaa;have f:=bN.o q aG;have b2:E ((opS zs I C q).set q (seg zs (I q) (C q))=opS zs I C (q+1)):=ME zs I C xaa;have bA:E (∀B,Kept 0 0 wr B->Cl B (.slice (some ⟨g,I q,none⟩) (C q) (aV-I q)) (seg zs (I q) (C q))):=λB k=>FR.sg (FR.keep (w:=w) (g:=g) (xs:=zs) HF.o (Kept.trans P.o k) yaa) bq.o xaa xaa;generalize I q=o at a7 f b2 bA;generalize C q=mm at a7 f b2 bA;obtain⟨bS,aH⟩:=a7;have bh:=ez 0 0 wr (Spn.mk (o:Int) (mm:Int)).box;have HC:E (∀w,Calls prog 38 #[(Spn.mk (o:Int) (mm:Int)).agg,hz g aV aV] w λe B=>e=.returned (.slice (some ⟨g,o,none⟩) mm (aV-o))/\Kept 0 0 w B):=λw=>o6 w g aV aV o mm f.1 f.2 xaa;have Q:q<3:=xaa;go_wp2_with fail;refine yaj (HC.o _) ?_;rintro e ag ⟨rfl,ak⟩;have aj:=bh.trans ak;have bi:=a2.o.keep aj;obtain⟨bE,ci,c0,b9,_⟩:=bi.at_ q Q;have ca:=bi.free q;have aB:=bA.o _ aj
   have R1:E (LV (ag.setCell ⟨w.heap.size+1,q,none⟩ (.slice (some ⟨g,o,none⟩) mm (aV-o))) (w.heap.size+1) 3 3 (opS zs I C (q+1))):=by
    have:=a2.o.put (j:=q) Q rfl aj aB;rw[b2.o]at this;exact this
   have S:Kept (w.heap.size+1) (w.heap.size+2) ag (ag.setCell ⟨w.heap.size+1,q,none⟩ (.slice (some ⟨g,o,none⟩) mm (aV-o))):=eR _ _ _ yac;have R2:E _:=(aT.o.keep aj yaa).keep S (.inl xaa);have R3:E _:=(Kept.trans P.o aj).new S xaa;clear aj bi aB S a2 aT P ak bh bS aH bA;go_wp2;go_roundw;exact⟨q+1,by omega,by go_num,R1,R2,R3⟩;simp[intOf];omega
  obtain rfl:q=n:=xaa;obtain⟨bE,ci,bS,c0,b9⟩:=a2.o.at_ 0 xaa;obtain⟨R,m1,aH,c1,ae⟩:=a2.o.at_ 1 xaa;obtain⟨aS,b7,bf,c2,a9⟩:=a2.o.at_ 2 xaa;have HE:E (∀B,Kept 0 0 wr B->Calls prog 164 #[lN op (L:Int) a b c K,.slice bE ci bS,.slice R m1 aH,.slice aS b7 bf] B λe aJ=>∃u,e=.returned u/\Cn aJ B.heap.size u (iL op (L:Int) c K ((opS zs I C q).getD 0 []) ((opS zs I C q).getD 1 []) ((opS zs I C q).getD 2 []))/\Kept 0 0 B aJ):=λB k=>zE B ⟨op,(L:Int),a,b,c,K⟩ aI _ _ _ _ _ _ ((b9 xaa).keep k) ((ae xaa).keep k) ((a9 xaa).keep k) (lr (yq bq.o _ _));have b8:=be.o.2;have Z:w.heap.size+1<wr.heap.size:=a2.o.lt;obtain⟨_,aY,aC,aL,b1,ba,cn,bF,ai,_⟩:=aT.o
  have bY:E (∀l h B,Kept l h wr B->(h<=l\/(g<=l/\h<=g+1))->B.cell? ⟨w.heap.size,0,none⟩=some (hA D)/\B.cell? ⟨w.heap.size,1,none⟩=some (hA L)/\B.cell? ⟨w.heap.size,2,none⟩=some (hA op)/\B.cell? ⟨w.heap.size,3,none⟩=some (hA L)/\B.cell? ⟨w.heap.size,4,none⟩=some (hA a)/\B.cell? ⟨w.heap.size,5,none⟩=some (hA b)/\B.cell? ⟨w.heap.size,6,none⟩=some (hA c)/\B.cell? ⟨w.heap.size,7,none⟩=some (.float .f64 K)/\B.cell? ⟨w.heap.size+1,0,none⟩=some (.slice bE ci bS)/\B.cell? ⟨w.heap.size+1,1,none⟩=some (.slice R m1 aH)/\B.cell? ⟨w.heap.size+1,2,none⟩=some (.slice aS b7 bf)):=λl h B k aK=>by
   have e:∀p o,p<wr.heap.size->p≠g->B.cell? ⟨p,o,none⟩=wr.cell? ⟨p,o,none⟩:=λp o aM bL=>k.cell (p:=⟨p,o,none⟩) aM (by show ¬(l<=p/\p<h);omega)
   exact⟨by rw[e _ _ xaa xaa];exact aY,by rw[e _ _ xaa xaa];exact aC,by rw[e _ _ xaa xaa];exact aL,by rw[e _ _ xaa xaa];exact b1,by rw[e _ _ xaa xaa];exact ba,by rw[e _ _ xaa xaa];exact cn,by rw[e _ _ xaa xaa];exact bF,by rw[e _ _ xaa xaa];exact ai,by rw[e _ _ xaa xaa];exact c0,by rw[e _ _ xaa xaa];exact c1,by rw[e _ _ xaa xaa];exact c2⟩
  exact qcu
theorem SS.b{a}(f:SS w a n r):SSb w w.heap.size a n r:=⟨f.len,yad,f.at_⟩
structure Ar(xss:List (List Nat))(ss:List Ste)(N k:Nat)(zs:List Nat):Prop where
 len:zs.length=N
 lt:∀z∈zs,z<18446744073709551616
 at_:∀c:Nat,c<N->fb (zs.getD c 0)=fb (mz ss (jc xss ss k) k (c:Nat))
theorem Ar.start(r ss aV):Ar r ss aV 0 (List.replicate aV 0):=
 ⟨by simp,λz bv=>by grind,λc ah=>by
  rw[yai,List.getElem?_replicate,hD ah];rfl⟩
theorem Fr(h:∀z∈zs,z<18446744073709551616)(h':∀z∈aa,z<18446744073709551616):∀z∈splice zs D aa,z<18446744073709551616:=λz bv=>by
 unfold splice at bv
 grind
theorem Ar.step(f:Ar r ss aV k zs){L:Nat}(aK:(ss.getD k Ste.zero).dst=D)(af:(ss.getD k Ste.zero).len=L)(aI:D+L<=aV)(O:aa.length=L)(X:∀z∈aa,z<18446744073709551616)(au:gC aa (doM r ss (jc r ss k) k (ss.getD k Ste.zero))):Ar r ss aV (k+1) (splice zs D aa):=by
 refine⟨by rw[length_splice _ _ _ (by rw[O,f.len];exact aI)];exact f.len,Fr f.lt X,λc ah=>?_⟩;rw[EY (by rw[O,f.len];exact aI),BT,aK,af,O];by_cases h:D<=c/\c<D+L
 ·grind[gQ]
 rw[hC h,hC xaa];exact f.at_ c ah
theorem Ar.sg(f:Ar r ss aV k zs)(h:o+m<=aV):gC (seg zs o m) (jK ss (jc r ss k) k (o:Int) (m:Int)):=by
 refine so (by rw[sI (hL f.len h),pe];omega) λj hj=>?_;rw[sI (hL f.len h)]at hj;rw[BW hj,Js xaa,f.at_ _ xaa];congr 2
theorem Fs(h:mK ins ss (aV:Int) k=true):iG ins (ss.getD k Ste.zero)=true/\(∃D L:Nat,(ss.getD k Ste.zero).dst=D/\(ss.getD k Ste.zero).len=L/\1<=L/\L<=1000/\D+L<=aV)/\∀q,q<cnt (ss.getD k Ste.zero).op->∃o m:Nat,(fh (ss.getD k Ste.zero)).getD q Spn.zero=⟨(o:Int),(m:Int)⟩/\1<=m/\o+m<=aV:=by
 unfold mK at h;generalize ss.getD k _=s at h⊢;simp only[Bool.and_eq_true]at h;obtain⟨F,N,h3⟩:=h;have af:=ot F;have X:=of_decide_eq_true N;refine⟨F,⟨s.dst.toNat,s.len.toNat,by omega,by omega,by omega,by omega,by omega⟩,λq ap=>?_⟩;have u:q<(fh s).length:=by rw[mM];exact ap
 have e:(fh s).getD q Spn.zero=(fh s)[q]:=by rw[yai,yam u];rfl
 rw[e];have am:=List.getElem_mem u;have aM:=List.all_eq_true.1 h3 _ am;have bL:=tS F am;unfold mq at aM;rw[Bool.and_eq_true]at aM;have ho:=rh aM.1;generalize (fh s)[q]=p at bL ho⊢;obtain⟨off,len⟩:=p;simp only at bL ho;exact⟨off.toNat,len.toNat,by grind,by omega,by omega⟩
theorem BX(zs I C n){i}(hi:i<3):(opS zs I C n).getD i []=if i<n then seg zs (I i) (C i) else[]:=by
 rcases (by omega:i=0\/i=1\/i=2) with rfl|rfl|rfl<;>rfl
theorem JA{rs}(al:s.op≠0):doM r ss rs n s=iL s.op s.len s.c s.k (if 0<cnt s.op then jK ss rs n (BC s 0) (BD s 0) else[]) (if 1<cnt s.op then jK ss rs n (BC s 1) (BD s 1) else[]) (if 2<cnt s.op then jK ss rs n (BC s 2) (BD s 2) else[]):=by
 unfold doM;rw[hC al];rfl
theorem uI{p}[Decidable p]{bJ}(h:p->gC xs bJ):gC (if p then xs else[]) (if p then bJ else[]):=by
 split
 ·grind
 rfl
theorem Ft(f:Ar r ss aV k zs)(aD:jf (jc r ss k))(al:s.op≠0)(I C)(y:∀q,q<cnt s.op->BC s q=(I q:Nat)/\BD s q=(C q:Nat)/\I q+C q<=aV):
  gC (iL s.op s.len s.c s.k ((opS zs I C (cnt s.op)).getD 0 []) ((opS zs I C (cnt s.op)).getD 1 []) ((opS zs I C (cnt s.op)).getD 2 [])) (doM r ss (jc r ss k) k s):=by
 rw[JA al,BX _ _ _ _ xaa,BX _ _ _ _ xaa,BX _ _ _ _ xaa]
 have aB:∀q,q<cnt _->gC _ (jK _ _ k (BC s q) (BD s q)):=λq ap=>by
  obtain⟨ae,a9,ai⟩:=y q ap
  rw[ae,a9]
  exact f.sg ai
 refine m9 (uI (aB 0)) (uI (aB 1)) (uI (aB 2)) (lr (yq f.lt _ _)) (lr (qM aD _ _ _))
theorem JB(ap:q<cnt s.op)(h:(fh s).getD q Spn.zero=⟨(o:Int),(m:Int)⟩):BC s q=o/\BD s q=m:=by
 obtain⟨p,F,N,h3⟩:=BE ap;simp_all
theorem BY(h:iG ins s=true)(al:s.op=0):∃j:Nat,s.a=j/\j<ins.length/\ins.getD j 0=s.len:=by
 unfold iG at h;rw[hD al]at h;simp only[Bool.and_eq_true]at h;have ar:=of_decide_eq_true h.2.1;grind
theorem Pa(hi:inB ins r=true)(hj:j<ins.length):((r.getD j []).length:Int)=ins.getD j 0:=by
 unfold inB at hi;grind
theorem Qk(w)(g aV:Nat)(zs)(aX:FR w g zs)(bC:aV<=50000)(b m cb ins r ss k)(aW:SSb w g b m r)(am:m=ins.length)(bL:jf r)(hi:inB ins r=true)(bx:mK ins ss (aV:Int) k=true)(f:Ar r ss aV k zs)(aD:jf (jc r ss k))(aI:(ss.getD k Ste.zero).k<18446744073709551616)(v)
  (aO:((ss.getD k Ste.zero).op=0/\v=my (ss.getD k Ste.zero))\/∃G,v=qI (ss.getD k Ste.zero) G (cnt (ss.getD k Ste.zero).op)/\(ss.getD k Ste.zero).op≠0/\SB w G (cnt (ss.getD k Ste.zero).op) (fh (ss.getD k Ste.zero))):
  Calls prog (if (ss.getD k Ste.zero).op=0 then 160 else 162) #[v,hz g aV aV,.slice b m cb] w λe B=>e=.returned (.tuple #[])/\(∃aU,FR B g aU/\Ar r ss aV (k+1) aU)/\Kept g (g+1) w B:=by
 obtain⟨a5,⟨D,L,aK,af,cf,b1,O⟩,y⟩:=Fs bx;have x:∀{aa:List _},aa.length=L->(∀z∈aa,z<18446744073709551616)->gC aa _->Ar _ _ aV _ _:=λF N h3=>f.step aK af O F N h3;have ca:=MA (ss:=ss) (rs:=jc r ss k) (n:=k) hi a5;rcases aO with⟨al,rfl⟩|⟨G,rfl,al,aT⟩
 ·rw[hD al];obtain⟨j,ar,hj,ab⟩:=BY a5 al;have b4:=Pa hi hj;rcases aW.at_ with z|⟨bX,bU,rfl,aP,y2⟩
  ·omega
  obtain⟨aC,bV,c1,c2,c3⟩:=y2 j xaa;have l:(r.getD j []).length=L:=xaa;rw[l]at c1 c3;rcases c3.at_ with z|⟨aS,br,rfl,_,a8,_,bk⟩
  ·omega
  have e:my (ss.getD k Ste.zero)=.agg #[hA D,hA L,hA j]:=by grind
  rw[e];refine(E0 w g aV _ aX f.len bC _ _ m _ aP j D L _ _ _ _ l xaa c1 a8 bk cf O).mono ?_;rintro e B ⟨rfl,F,N⟩;refine⟨rfl,⟨_,F,x l (bL j) ?_⟩,N⟩;unfold doM;rw[hD al,ar,Int.toNat_natCast];rfl
 rw[hC al]
 have aM:∃I C:Nat->Nat,∀q,q<cnt (ss.getD k Ste.zero).op->(fh (ss.getD k Ste.zero)).getD q Spn.zero=⟨(I q:Int),(C q:Int)⟩/\1<=C q/\I q+C q<=aV:=by
  have h:∀q,∃i:Nat×Nat,q<cnt _->(fh _).getD q _=⟨(i.1:Int),(i.2:Int)⟩/\1<=i.2/\i.1+i.2<=aV:=λq=>by
   by_cases ap:q<cnt (ss.getD k Ste.zero).op
   ·obtain⟨o,mm,F,N,h3⟩:=y q ap
    exact⟨(o,mm),λ_=>⟨F,N,h3⟩⟩
   ·exact⟨(0,0),λc=>absurd c ap⟩
  obtain⟨bg,u⟩:=Classical.axiomOfChoice h;exact⟨_,_,λq ap=>u q ap⟩
 obtain⟨I,C,aA⟩:=aM
 have p:=Ft f aD al _ _ (λq ap=>by
  obtain⟨F,N,h3⟩:=aA q ap
  obtain⟨a6,bF⟩:=JB ap F
  exact⟨a6,bF,h3⟩)
 have U:=i7 p;generalize H:ss.getD k _=s at*;have e:qI s G (cnt s.op)=.agg #[hA D,hA L,hA s.op,hA L,hA s.a,hA s.b,hA s.c,.float .f64 s.k,hz G (cnt s.op) 3]:=by grind
 rw[e];rw[af]at p U;refine(Jz w g aV _ aX f.len bC f.lt b m _ _ _ _ _ _ aI D L _ G (fI _) cf O _ _ aT.lt (λq ap=>by rw[<-(aA q ap).1];exact aT.at_ q ap) (λq ap=>(aA q ap).2) xaa).mono ?_;grind[jP,i7]
theorem JC{bA}(h:oq ins ss bG bA=true):(ins.length<=20/\ss.length<=2000/\bG.length<=50/\0<=bA/\bA<=50000)/\(List.range ss.length).all (mK ins ss bA)=true/\bG.all (tQ ss bA)=true:=by
 grind[oq,mL]
theorem AH(h:bG.all (tQ ss (aV:Int))=true)(hj:j<bG.length):∃o m:Nat,bG.getD j Spn.zero=⟨(o:Int),(m:Int)⟩/\1<=m/\m<=1000/\o+m<=aV:=by
 have e:bG.getD j Spn.zero=bG[j]:=by simp_all
 rw[e];have aM:=List.all_eq_true.1 h _ (List.getElem_mem hj);generalize bG[j]=p at aM⊢;unfold tQ at aM;rw[Bool.and_eq_true]at aM;have F:=of_decide_eq_true aM.1;have N:=rh aM.2;obtain⟨off,len⟩:=p;simp only at F N;exact⟨off.toNat,len.toNat,by grind,by omega,by omega,by omega⟩
theorem BZ(w a1 U a3 b Z c1 n2 c2 ab c3 m cb bA ins ss bG r)(f:CS w a1 Z U n2 a3 ab ins ss bG)(s:SS w b m r)(X:jf r)(h:oq ins ss bG bA=true)(N:inB ins r=true):
  Calls prog 12 #[re a1 Z c1 U n2 c2 a3 ab c3 bA,.slice b m cb] w λe B=>∃G au bH y,e=.returned (.tuple #[hz G ab ab,hA n2,hA 0])/\w.heap.size<=G/\SP B G ab ab au bH y/\y.length=ab/\(∀j,j<ab->gC (y.getD j []) ((Jr r ss bG).getD j []))/\Kept 0 0 w B:=by
 obtain⟨⟨b8,cg,cO,bK,bu⟩,bx,f4⟩:=JC h;have ae:=f.i.len;have a9:=f.s.len;have ai:=f.o.len;rw[ae]at b8;rw[a9]at cg bx;rw[ai]at cO;obtain⟨aV,rfl⟩:=Int.eq_ofNat_of_zero_le bK;have b2:E _:=bx;have bd:E _:=f4;have bQ:E _:=Ch f.s.lt;have HR:E _:=λk=>Jt (ss:=ss) X (Ch f.s.lt) k;have aw:E _:=X;have bE:E _:=N
 have HM:E (m=ins.length):=by
  have:=N;unfold inB at this;simp only[Bool.and_eq_true,decide_eq_true_eq,s.len]at this;exact this.1
 have aI:=ez 0 0 w (mH a1 Z c1 U n2 c2 a3 ab c3 (aV:Int));have ar:E _:=CL _ a1 U a3 Z c1 n2 c2 ab c3 (aV:Int) ins ss bG (f.keep aI);rw[h]at ar;have av:E _:=jZ w (.slice a1 Z c1) (.slice U n2 c2) (.slice a3 ab c3) (hA aV);have HF:E _:=f.keep aI;have ao:E _:=s.keep aI;have HK:E _:=aI;clear aI h f s bx f4 X;go_enter func12,ntmps12;go_wp2_with fail;generalize w.alloc (mH a1 Z c1 U n2 c2 a3 ab c3 (aV:Int))=aA at ar av HF ao HK⊢;refine yaj ar.o ?_;rintro e ag ⟨rfl,ak⟩;obtain⟨_,aY,aC,aL,b1⟩:=C0.keep av.o ak;have b9:E _:=Eb ag _ _ a1 b Z m c1 cb ins r (CS.keep HF.o ak).i (SS.keep ao.o ak) xaa;rw[N]at b9;have bB:E _:=ak;clear ak ar N;go_wp2_with fail;clear aY aC aL b1;refine yaj b9.o ?_;rintro e aF ⟨rfl,Y⟩;have aR:=Kept.trans bB.o (Y.kept 0 0);have am:=qR aV aF xaa;have bh:=ez 0 0 aF (.cells (madeCells #[.float .f64 0] aV) 57);have cj:E _:=av.o.keep aR;have I:E (FR (aF.alloc (.cells (madeCells #[.float .f64 0] aV) 57)) aF.heap.size (List.replicate aV 0)):=FR.made aF aV;have bX:=HF.o.keep aR;have z:E (TS (aF.alloc (.cells (madeCells #[.float .f64 0] aV) 57)) 0 aF.heap.size U n2 ss):=bX.s.keep bh yaa;have S:E (PS (aF.alloc (.cells (madeCells #[.float .f64 0] aV) 57)) 0 aF.heap.size a3 ab bG):=bX.o.keep bh yaa;have ck:E (SSb (aF.alloc (.cells (madeCells #[.float .f64 0] aV) 57)) aF.heap.size b m r):=(SS.b (ao.o.keep aR)).keep bh yab;have be:E (w.heap.size<aF.heap.size):=cj.o.sz;obtain⟨_,aY,aC,aL,b1⟩:=cj.o;have K:E _:=cj.o.keep bh;obtain⟨_,br,ay,a0,ch⟩:=K.o;have C:E _:=Kept.trans HK.o (Kept.trans aR bh);have bM:E (aF.heap.size<(aF.alloc (.cells (madeCells #[.float .f64 0] aV) 57)).heap.size):=by show _<_;simp
 clear Y aR bh b9 bB av HF ao bX HK cj;generalize aW:aF.heap.size=g at am I z S ck be bM;generalize aF.alloc (.cells (madeCells #[.float .f64 0] aV) 57)=bc at am I z S ck K C bM br ay a0 ch;clear aW;go_wp2_with fail;clear aY aC aL b1 br ay a0 ch am;go_loopw [27] (λx W=>∃k:Nat,k<=n2/\x=hA k/\E (∃zs,FR W g zs/\Ar r ss aV k zs)/\E (Kept g (g+1) bc W)) (λx _=>n2-(intOf x).toNat)
 case atStart=>exact⟨0,yae,rfl,⟨_,I.o,Ar.start r ss aV⟩,Kept.refl _ _ _⟩
 case round=>
  obtain⟨k,O,rfl,aM,bO⟩:=hrel;clear I;by_cases aG:k<n2
  ·obtain⟨zs,l,R⟩:=aM.o;rcases (z.o.keep bO.o (.inl yad)).at_ with bD|⟨az,bv,b5,aQ,a8,bi,bk⟩
   ·omega
   have a7:=bk k aG;have cM:g<wr.heap.size:=yak bM.o bO.o.size;have I:E (FR wr g zs):=l;have aS:E _:=R;have bm:mK ins ss (aV:Int) k=true:=List.all_eq_true.1 b2.o k (List.mem_range.2 aG)
   have H:E (∀B,Kept 0 0 wr B->∀v,(((ss.getD k Ste.zero).op=0/\v=my (ss.getD k Ste.zero))\/∃G,v=qI (ss.getD k Ste.zero) G (cnt (ss.getD k Ste.zero).op)/\(ss.getD k Ste.zero).op≠0/\SB B G (cnt (ss.getD k Ste.zero).op) (fh (ss.getD k Ste.zero)))->Calls prog (if (ss.getD k Ste.zero).op=0 then 160 else 162) #[v,hz g aV aV,.slice b m cb] B λe aJ=>e=.returned (.tuple #[])/\(∃aU,FR aJ g aU/\Ar r ss aV (k+1) aU)/\Kept g (g+1) B aJ):=λB q v aO=>
    Qk B g aV zs (FR.keep (w:=wr) (g:=g) (xs:=zs) I.o q yaa) xaa b m cb ins r ss k ((ck.o.keep bO.o (.inl yad)).keep q yab) HM.o aw.o bE.o bm aS.o (HR.o k) (bQ.o k) v aO
   generalize ss.getD k Ste.zero=s at a7 H;have bh:=ez 0 0 wr s.box;have bL:E _:=lR wr s;have hP:wr.heap.size<(wr.alloc s.box).heap.size:=by simp
   subst b5;obtain⟨bS,aH,bf,Y,bC,bZ,ad,an⟩:=a7;obtain⟨bz,bo,bw,bR,cz,b0,aN,a6⟩:=bL.o;simp only[Nat.zero_add]at bo bw bR cz b0 aN a6;clear aQ a8 bi bk aM l R I aS bm;go_wp2_with fail;clear bS aH bf Y bC bZ ad an bz bo bw bR cz b0 aN a6;have J:E (Kept g (g+1) bc (wr.alloc s.box)):=Kept.trans bO.o (bh.mono λb _ c=>by omega);by_cases al:s.op=0
   ·have ce:∀w:World,(method 326 108 (my s) "loop.example/s08086/impl.carryOut").run prog w=.ok (160,my s) w:=λ_=>by kernel_rfl
    refine yaj (vS (wr.alloc s.box) s al) ?_;rintro e cl ⟨rfl,bU⟩;have aD:E _:=Kept.trans J.o (bU.mono (lo':=g) (hi':=g+1) λb _ c=>by omega);have F:E _:=H.o cl (bh.trans bU) (my s) (.inl ⟨al,rfl⟩);rw[hD al]at F;clear bU bh H J;exact xds
   refine yaj (Ai (wr.alloc s.box) s al) ?_;rintro e cl ⟨G,rfl,bl,_,bU⟩;have ce:∀w:World,(method 326 110 (qI s G (cnt s.op)) "loop.example/s08086/impl.carryOut").run prog w=.ok (162,qI s G (cnt s.op)) w:=λ_=>by kernel_rfl
   have aD:E _:=Kept.trans J.o (bU.mono (lo':=g) (hi':=g+1) λb _ c=>by omega);have F:E _:=H.o cl (bh.trans bU) (qI s G (cnt s.op)) (.inr ⟨G,rfl,al,bl⟩);rw[hC al]at F;clear bU bh H J bl;exact xds
  obtain⟨zs,l,R⟩:=aM.o;obtain rfl:k=n2:=xaa;obtain⟨bp,ba⟩:∃bp,bp=wr:=⟨_,rfl⟩
  subst ba;have I:E (FR bp g zs):=l;have aS:E _:=R;have P:E _:=K.o.keepR bO.o (.inl be.o);have am:=NW ab bp xaa;have aj:=ez 0 0 bp (.cells (madeCells #[.slice none 0 0] ab) 55);obtain⟨_,aY,aC,aL,b1⟩:=P.o;have bY:E _:=P.o.keep aj;obtain⟨_,br,ay,a0,ch⟩:=bY.o;have bW:E _:=S.o.keep bO.o (.inl yad);have ap:E _:=SP.made bp ab id id (bG.map λp=>seg zs p.off.toNat p.len.toNat);have co:E _:=aj;have bP:E (g<bp.heap.size/\w.heap.size<g):=⟨yak bM.o bO.o.size,be.o⟩
  have Q:E (Kept 0 0 w bp):=C.o.new bO.o (Nat.le_of_lt be.o);have bq:E _:=P;clear aM l R aj bO z S ck K C P;generalize bp.alloc (.cells (madeCells #[.slice none 0 0] ab) 55)=cl at am ap co bY br ay a0 ch;go_wp2_with fail;clear am aY aC aL b1 br ay a0 ch;go_loopw [44] (λi W=>∃j:Nat,j<=ab/\i=hA j/\E (∃au bH,SP W bp.heap.size ab j au bH (bG.map λp=>seg zs p.off.toNat p.len.toNat))/\E (Kept 0 0 bp W)) (λi _=>ab-(intOf i).toNat)
  case atStart=>exact⟨0,yae,rfl,⟨id,id,ap.o⟩,co⟩
  case round=>
   obtain⟨j,hj,rfl,hP,aI⟩:=hrel;clear ap co bY;obtain⟨au,bH,hP⟩:=hP.o;by_cases aG:j<ab
   ·rcases (bW.o.keep aI.o yaa).at_ with bD|⟨az,bv,b5,aQ,a8,bi,bk⟩
    ·omega
    have a7:=bk j aG;obtain⟨o,mm,ho,bb,bn,aP⟩:=AH bd.o (hL ai aG)
    have bN:(bG.map λp=>seg zs p.off.toNat p.len.toNat).getD j []=seg zs o mm:=by
     have e:bG.getD j Spn.zero=bG[j]'xaa:=by rw[yai,yam xaa];rfl
     rw[yai,List.getElem?_map,yam xaa];simp only[Option.map_some,Option.getD_some];rw[<-e,ho];simp only[Int.toNat_natCast]
    have cA:(seg zs o mm).length=mm:=sI (hL aS.o.len aP);have aK:E (∀{B:World}{G c:Nat},Kept 0 0 wr B->FO B G _ _->wr.heap.size<=G->_<=c->_):=λq ho bg ah=>hP.step aG q ho bg ah;rw[bN,cA]at aK;rw[ho]at a7;have cF:E (∀B,Kept 0 0 wr B->B.frozen? ⟨bp.heap.size,j,none⟩=false/\∃u,B.cell? ⟨bp.heap.size,j,none⟩=some u):=λB q=>⟨(hP.keep q).free j,(hP.keep q).rest j aG⟩
    have bh:=ez 0 0 wr (Spn.mk (o:Int) (mm:Int)).box;have aX:=km wr (Spn.mk (o:Int) (mm:Int));obtain⟨bz,bo⟩:=aX;rw[Nat.zero_add]at bo;have HC:E (∀w,Calls prog 38 #[(Spn.mk (o:Int) (mm:Int)).agg,hz g aV aV] w λe B=>e=.returned (.slice (some ⟨g,o,none⟩) mm (aV-o))/\Kept 0 0 w B):=λw=>o6 w g aV aV o mm bb aP xaa
    have a2:E (∀B,Kept 0 0 wr B->Calls prog 37 #[.slice (some ⟨g,o,none⟩) mm (aV-o)] B λe aJ=>∃G cap,e=.returned (hz G mm cap)/\mm<=cap/\FO aJ G mm (seg zs o mm)/\B.heap.size<=G/\Kept 0 0 B aJ):=λB q=>by
     have a5:FR B g zs:=FR.keep (w:=bp) (g:=g) (xs:=zs) I.o (Kept.trans aI.o q) yaa
     exact PG B g o mm (aV-o) (seg zs o mm) bb xaa a5.lt cA (yq aS.o.lt o mm) (λi hi=>by rw[BW hi];exact a5.cell (o+i) (hN aS.o.len))
    subst b5;obtain⟨bS,aH⟩:=a7;clear aQ a8 bi bk bN hP ho;generalize seg zs o mm=bJ at aK a2;go_wp2_with fail;clear bS aH bz bo;refine yaj (HC.o _) ?_;rintro e ci ⟨rfl,bI⟩;have aT:=bh.trans bI;go_wp2_with fail;refine yaj (a2.o _ aT) ?_;rintro e af ⟨G,cap,rfl,ax,bj,b4,bF⟩;have aZ:=aT.trans bF;have R1:E _:=aK.o aZ bj (yao aT.size b4) ax;have R2:E _:=pY bp af (Kept.trans aI.o aZ) bp.heap.size j (hz G mm cap) yad;obtain⟨ca,u,aB⟩:=cF.o af aZ;clear HC a2 aK cF bj bF bI bh aT aZ aI;go_wp2;go_roundw;exact⟨j+1,by omega,by go_num,⟨_,_,R1.o⟩,R2⟩;simp[intOf];omega
   obtain rfl:j=ab:=xaa;have R1:E (Kept 0 0 w wr):=Kept.trans Q.o aI.o
   have R2:E (∀i,i<j->gC ((bG.map λp=>seg zs p.off.toNat p.len.toNat).getD i []) ((Jr r ss bG).getD i [])):=λi hi=>by
    obtain⟨o,mm,ho,bb,bn,aP⟩:=AH bd.o (hL ai hi)
    have e:bG.getD i Spn.zero=bG[i]'xaa:=by rw[yai,yam xaa];rfl
    unfold Jr
    rw[yai,List.getElem?_map,yai,List.getElem?_map,yam xaa]
    simp only[Option.map_some,Option.getD_some]
    rw[<-e,ho,a9]
    simp only[Int.toNat_natCast]
    exact aS.o.sg aP
   have R3:E _:=hP;obtain⟨_,aY,aC,aL,b1⟩:=bq.o.keep aI.o;clear hP aI;go_wp2_with fail;go_quiet (fail)
   go_wp2;go_ret3
   exact⟨bp.heap.size,au,bH,_,rfl,hJ bP.o,R3.o.keep (eJ 0 0 _ _),by rw[List.length_map];exact ai,R2.o,Kept.trans R1.o (eJ 0 0 _ _)⟩
