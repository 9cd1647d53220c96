import Derived.Test.YtcagphgmfbjneaaGreatP44
import Derived.Test.YtcagphgmfbjneaaGreatP45
import Derived.Test.YtcagphgmfbjneaaGreatP33
import Derived.Test.YtcagphgmfbjneaaGreatP26
namespace Go.Proofs.Z
variable{Zp:Prop}
open Tryz Go.RowKit Flt
set_option maxRecDepth 1000000
set_option maxHeartbeats 0
section
attribute[local go_sem] eE eD eC
variable{PZ:Prop}{l:List (List UInt8)}{L A cl c k hi z m n cap:Nat}{d:ByteArray}{H w:World}{bs Y:List Int}{S:Nat->Prop}{x:Int}{a:Option Addr}
structure YL(w:World)(hi:Nat)(a:Option Addr)(n:Nat)(xs:List Int):Prop where
 len:xs.length=n
 at_:n=0\/∃g off,a=some ⟨g,off,none⟩/\g<hi/\g<w.heap.size/\∀k,k<n->w.cell? ⟨g,off+k,none⟩=some (.int .u8 (xs.getD k 0))
theorem YL.keepC{B xs}(f:YL w hi a n xs)(k:Chg S w B)(aO:∀g,g<hi->¬S g):YL B hi a n xs:=
 ⟨f.len,by
  rcases f.at_ with ak|⟨g,off,e,F,h3,h4⟩
  ·exact .inl ak
  ·exact .inr ⟨g,_,e,F,yak h3 k.size,λj hj=>by rw[k.cell h3 (aO g F)];grind⟩⟩
structure RdR(W:World)(hi R:Nat)(rs:List Int):Prop where
 ex:∃a c,W.cell? ⟨R,0,none⟩=some (.slice a rs.length c)/\YL W hi a rs.length rs/\rs.length<=c/\c<=9223372036854775807
 c1:W.cell? ⟨R,1,none⟩=some (.bool false)
 f0:W.frozen? ⟨R,0,none⟩=false
 lt:R<W.heap.size
 le:hi<=R
 bt:Bts rs
theorem RdR.keepC{W R rs}(f:RdR W hi R rs)(k:Chg S W H)(aO:∀g,g<hi->¬S g)(K:¬S R):RdR H hi R rs:=by
 obtain⟨a,c,F,h2,h3,h4⟩:=f.ex;exact⟨⟨a,c,(k.cell f.lt K).trans F,h2.keepC k aO,h3,h4⟩,(k.cell f.lt K).trans f.c1,(k.frozen f.lt K).trans f.f0,yak f.lt k.size,f.le,f.bt⟩
theorem ER(bs:List Int)(p k):(bs.drop p).getD k 0=bs.getD (p+k) 0:=by
 simp_all
theorem Me(h:Bts bs)(p k)(O:k<8):bits .or .u64 (iP bs p k) (bs.getD (p+k) 0*256 ^ k)=iP bs p (k+1):=by
 have F:=rQ h p k;have h2:=sR h (p+k);rw[show iP _ p (k+1)=iP _ p k+bs.getD _ 0*256 ^ k from rfl];generalize iP _ p k=x at F⊢;generalize bs.getD _ 0=y at h2⊢;rcases (by omega:k=0\/k=1\/k=2\/k=3\/k=4\/k=5\/k=6\/k=7) with rfl|rfl|rfl|rfl|rfl|rfl|rfl|rfl
 ·simp at F;have e:x=0:=xaa;subst e;rw[Int.pow_zero,Int.mul_one];exact bits_join_low _ _ xab wraps_u64 0 0 y xaa xaa xaa xaa xaa xaa
 ·grind[u64_or8]
 ·grind[u64_or16]
 ·grind[u64_or24]
 ·grind[u64_or32]
 ·grind[u64_or40]
 ·grind[u64_or48]
 grind[u64_or56]
theorem IM(h:Bts bs)(p k)(O:k<8):bits .or .u64 (iP bs p k) (IntKind.u64.wrap (bs.getD (p+k) 0*2 ^ (8*k)))=iP bs p (k+1):=by
 have h2:=sR h (p+k);grind[u64_wrap_id,Me]
theorem rm(W hi R rs v)(f:RdR W hi R rs)(F:1<=v)(ar:v<=8)(aQ:v<=rs.length):
  Calls prog 38 #[hZ R,h1 (v:Nat)] W λe B=>e=.returned (.int .u64 (iP rs 0 v))/\RdR B hi R (rs.drop v)/\Chg (λb=>b=R) W B:=by
 obtain⟨a,c,cj,bh,bg,ah⟩:=f.ex;rcases bh.at_ with z|⟨g,off,rfl,aR,bd,bu⟩
 ·omega
 have HZ:V _:=bu;have aD:V _:=f;have HO:V (∀k,k<v->_):=λk O=>IM f.bt 0 k xaa;have aX:V _:=λk=>sR f.bt k;have HN:V _:=λk=>rQ f.bt 0 k;have bN:=f.f0;generalize ag:rs.length=n at cj bg HZ aQ;have HE:V _:=ag;clear f bu bh ag;go_enter func38,ntmps38;go_wp2_with fail;go_loopw [5,18] (λx i H=>∃k:Nat,k<=v/\i=h1 k/\x=.int .u64 (iP rs 0 k)/\H=W) (λ_ i _=>v-(intOf i).toNat)
 case atStart=>exact⟨0,yae,rfl,rfl,rfl⟩
 case round=>
  obtain⟨k,O,rfl,rfl,rfl⟩:=hrel;by_cases hlt:k<v
  ·have c1:=HZ.o k xaa;have ho:=HO.o k hlt;have bp:=aX.o k;have ap:=HN.o k;rw[Nat.zero_add]at ho;generalize rs.getD _ 0=y at c1 ho bp;obtain⟨u,aj⟩:∃u,u=iP rs 0 (k+1):=⟨_,rfl⟩
   rw[<-aj]at ho;generalize iP _ 0 k=x at ho ap⊢;have r:V _:=ho;have t:V _:=aj;clear ho aj;go_wp2_with fail;exact⟨⟨k+1,by omega,by go_num,by rw[r.o,t.o],trivial⟩,by simp[intOf];omega⟩
  obtain rfl:k=v:=xaa;obtain⟨x,ap⟩:∃x,x=iP rs 0 k:=⟨_,rfl⟩
  rw[<-ap];have HX:V _:=ap
  have G:V (∀b,(k<n->b=some ⟨g,_,_⟩)->RdR (wr.setCell ⟨R,0,_⟩ _) _ R (rs.drop k)/\Chg (λb=>b=R) _ (wr.setCell ⟨R,0,_⟩ (.slice b (n-k) (c-k)))):=λb hb=>by
   have ba:=aD.o
   have U:¬R=g:=ix ba.le
   have bI:(rs.drop k).length=n-k:=by rw[List.length_drop,HE.o]
   refine⟨⟨⟨b,c-k,?_,⟨rfl,?_⟩,by omega,by omega⟩,?_,by simp[ba.f0],by simpa using ba.lt,ba.le,λx ap=>ba.bt x (List.mem_of_mem_drop ap)⟩,fJ _ _ _ _ rfl⟩
   ·rw[bI];exact fy _ _ _ _ _ cj
   ·rw[bI]
    rcases Nat.lt_or_ge k n with h|h
    ·refine .inr ⟨g,_,hb h,aR,by simpa using bd,λj hj=>?_⟩
     rw[eV _ _ _ _ _ _ (.inl U),ER,Nat.add_assoc]
     exact HZ.o _ xaa
    ·exact .inl xaa
   ·rw[eV _ _ _ _ _ _ (.inr xaa)];exact ba.c1
  clear ap;by_cases cD:c=k
  ·have J:n=k:=xaa;have I:=G.o (some ⟨g,off,none⟩) (λh=>by omega);subst cD;subst J;rw[Nat.sub_self]at I;have R1:V _:=I;clear HZ HO aX HN HE aD I G;go_wp2_with fail;go_ret;exact⟨by rw[<-HX.o];rfl,R1.o⟩
  have I:V _:=G.o _ (λ_=>rfl);clear HZ HO aX HN HE aD G;go_wp2_with fail;go_ret;exact⟨by rw[<-HX.o];rfl,I.o⟩
theorem yJ{v r}(h:Bts (it v++r)):0<=v/\v<65536:=by
 have ak:=h (v/256) (by simp[it]);omega
theorem mI(W hi R v r)(f:RdR W hi R (it v++r)):
  Calls prog 40 #[hZ R] W λe B=>e=.returned (h1 v)/\RdR B hi R r/\Chg (λb=>b=R) W B:=by
 have HN:V _:=rm W _ R _ 2 f xab xab (by simp[it]);have h2:=yJ f.bt;rw[nQ 2 yad,LS,show(it v).getD 0 0+256*(it v).getD _ 0=v by show v%256+256*(v/256)=v;omega]at HN;clear f;go_enter func40,ntmps40;go_wp2_with fail;refine yaj HN.o ?_;rintro e am ⟨rfl,(R1:V _)⟩;go_wp2_with fail;go_ret;exact⟨rfl,R1.o⟩
theorem Pk(W hi R)(o:Spn)(r)(f:RdR W hi R (it o.off++(it o.len++r))):
  Calls prog 44 #[hZ R] W λe B=>e=.returned o.agg/\RdR B hi R r/\Chg (λb=>b=R) W B:=by
 have ad:=eA 0 0 W (.cells #[h1 0,h1 0] 53);have v:V (hi<=R/\R<W.heap.size):=⟨f.le,f.lt⟩
 have aD:V _:=f.keepC ad.chg (λ_ _ h=>h) (λh=>h);have HK:V (Chg (λb=>b=R) W _):=ad.chg;have bf:V ((W.alloc (.cells #[h1 0,h1 0] 53)).cell? ⟨W.heap.size,0,none⟩=some (h1 0)/\(W.alloc (.cells #[h1 0,h1 0] 53)).cell? ⟨W.heap.size,1,none⟩=some (h1 0)/\(∀o,(W.alloc (.cells #[h1 0,h1 0] 53)).frozen? ⟨W.heap.size,o,none⟩=false)/\W.heap.size<(W.alloc (.cells #[h1 0,h1 0] 53)).heap.size):=⟨by go_simp,by go_simp,λo=>by simp,by simp⟩
 clear f ad;go_enter func44,ntmps44;go_wp2_with fail;generalize W.alloc _=aH at aD HK bf⊢;generalize be:W.heap.size=A at bf v⊢;have bO:V _:=be;clear be;refine yaj (mI _ _ R _ _ aD.o) ?_;rintro e am ⟨rfl,(co:V _),(G:V _)⟩;clear aD;go_wp2_with fail;refine yaj (mI _ _ R _ _ co.o) ?_;rintro e aU ⟨rfl,bJ,aI⟩;have bx:=Chg.andThen G.o aI;have j:¬A=R:=ix v.o
 have c0:=(bx.cell bf.o.2.2.2 j).trans bf.o.1;have c1:=(bx.cell bf.o.2.2.2 j).trans bf.o.2.1;have az:=(bx.frozen bf.o.2.2.2 j).trans (bf.o.2.2.1 0);have b5:=(bx.frozen bf.o.2.2.2 j).trans (bf.o.2.2.1 1)
 have HR:V (∀x y,(RdR _ _ R r/\Chg _ W _)/\((aU.setCell _ x).setCell ⟨A,1,_⟩ y).cell? ⟨A,0,_⟩=some x/\((aU.setCell ⟨A,0,_⟩ x).setCell _ y).cell? ⟨A,1,_⟩=some y):=λx y=>by
  have aN:Chg (λb=>b=A) aU _:=Chg.andThen (fJ _ A 0 x rfl) (fJ _ A 1 y rfl)
  have F:=v.o
  have h2:=bO.o
  exact⟨⟨bJ.keepC aN (λg aK e=>by omega) (λe=>j e.symm),Chg.new (Chg.andThen HK.o bx) aN (λi hi e=>by omega)⟩,by rw[eV _ _ _ _ _ _ (.inr xaa)];exact fy _ _ _ _ _ c0,fy _ _ _ _ _ (by rw[eV _ _ _ _ _ _ (.inr xaa)];exact c1)⟩
 clear bJ aI bx HK co G bf v bO;have HR:=HR.o (h1 o.off) (h1 o.len);go_wp2_with fail;obtain⟨aF,bh,aJ⟩:=HR;refine yaz (v:=o.agg) (by simp[results,results44,go_sem,bh,aJ]) rfl ⟨rfl,aF⟩
def vl(x:Int)(fs:List Int)(z:Nat):Ste:=⟨x,fs.getD 0 0,fs.getD 1 0,fs.getD 2 0,fs.getD 3 0,fs.getD 4 0,fs.getD 5 0,z⟩
structure StB(W:World)(A:Nat)(x:Int)(fs:List Int)(z:Nat):Prop where
 len:fs.length=6
 c0:W.cell? ⟨A,0,none⟩=some (.int .i64 x)
 cf:∀i,i<6->W.cell? ⟨A,i+1,none⟩=some (.int .i64 (fs.getD i 0))
 c7:W.cell? ⟨A,7,none⟩=some (.float .f64 z)
 fr:∀o,W.frozen? ⟨A,o,none⟩=false
 lt:A<W.heap.size
theorem StB.at_{W}(f:StB W A x Y z):AtT W A 0 (vl x Y z):=
 ⟨f.c0,f.cf 0 xaa,f.cf 1 xaa,f.cf 2 xaa,f.cf 3 xaa,f.cf 4 xaa,f.cf 5 xaa,f.c7⟩
theorem StB.keepC{W}(f:StB W A x Y z)(k:Chg S W H)(aO:¬S A):StB H A x Y z:=by
 have e:∀o,_:=λo=>k.cell (p:=⟨A,o,none⟩) f.lt aO;have bg:∀o,_:=λo=>k.frozen (p:=⟨A,o,none⟩) f.lt aO;exact⟨f.len,i1 e f.c0,λi hi=>by rw[e];exact f.cf i hi,i1 e f.c7,λo=>by rw[bg];exact f.fr o,yak f.lt k.size⟩
theorem StB.put{W}(f:StB W A x Y z)(O:k<6)(y):StB (W.setCell ⟨A,k+1,none⟩ (h1 y)) A x (Y.set k y) z where
 len:=by rw[List.length_set];exact f.len
 c0:=by rw[eV _ _ _ _ _ _ (.inr xaa)];exact f.c0
 cf:=λi hi=>by
  rw[zw _ 0 y k i (i1 f.len O)]
  by_cases e:i=k
  ·subst e
   rw[h7 rfl]
   exact fy _ _ _ _ _ (f.cf i hi)
  ·rw[h6 e,eV _ _ _ _ _ _ (.inr xaa)]
   exact f.cf i hi
 c7:=by rw[eV _ _ _ _ _ _ (.inr xaa)];exact f.c7
 fr:=λo=>by simp[f.fr o]
 lt:=by simpa using f.lt
theorem StB.put7{W}(f:StB W A x Y z)(y):StB (W.setCell ⟨A,7,none⟩ (.float .f64 y)) A x Y y where
 len:=f.len
 c0:=by rw[eV _ _ _ _ _ _ (.inr xaa)];exact f.c0
 cf:=λi hi=>by rw[eV _ _ _ _ _ _ (.inr xaa)];exact f.cf i hi
 c7:=fy _ _ _ _ _ f.c7
 fr:=λo=>by simp[f.fr o]
 lt:=by simpa using f.lt
abbrev Nm(w:World)(g:Nat)(v:Ste):World:=
 ((((((((w.setCell ⟨g,0,none⟩ (.int .i64 v.op)).setCell ⟨g,1,none⟩ (.int .i64 v.len)).setCell ⟨g,2,none⟩ (.int .i64 v.n)).setCell ⟨g,3,none⟩ (.int .i64 v.dst)).setCell ⟨g,4,none⟩ (.int .i64 v.a)).setCell ⟨g,5,none⟩ (.int .i64 v.b)).setCell ⟨g,6,none⟩ (.int .i64 v.c)).setCell ⟨g,7,none⟩ (.float .f64 v.k))
theorem IN(w g u v)(h:AtT w g 0 u):AtT (Nm w g v) g 0 v:=JW w g 0 u v h
theorem ES(w g v):Chg (λb=>b=g) w (Nm w g v):=(DE w g 0 v).chg1 rfl
abbrev IP(x:Int):Obj:=.cells #[.int .i64 x,.int .i64 0,.int .i64 0,.int .i64 0,.int .i64 0,.int .i64 0,.int .i64 0,.float .f64 0] 47
theorem C7(w:World)(x):StB (w.alloc (IP x)) w.heap.size x [0,0,0,0,0,0] 0 where
 len:=rfl
 c0:=by go_simp
 cf:=λi hi=>by
  rw[yav]
  grind
 c7:=by go_simp
 fr:=λo=>by simp
 lt:=by simp
abbrev Pm(A:Nat):Obj:=.cells #[.pointer (some ⟨A,1,none⟩),.pointer (some ⟨A,2,none⟩),.pointer (some ⟨A,3,none⟩),.pointer (some ⟨A,4,none⟩),.pointer (some ⟨A,5,none⟩),.pointer (some ⟨A,6,none⟩)] 103
theorem Mf(w:World)(A){i}(hi:i<6):(w.alloc (Pm A)).cell? ⟨w.heap.size,i,none⟩=some (.pointer (some ⟨A,i+1,none⟩)):=by
 grind[yav]
theorem IQ{s t}(h:k<6):((fw s).drop k).flatMap it++t=it ((fw s).getD k 0)++(((fw s).drop (k+1)).flatMap it++t):=by
 rcases (by omega:k=0\/k=1\/k=2\/k=3\/k=4\/k=5) with rfl|rfl|rfl|rfl|rfl|rfl<;>rfl
theorem Pn(W hi R s r)(f:RdR W hi R (my s++r))(O:s.k<18446744073709551616):
  Calls prog 42 #[hZ R] W λe B=>e=.returned (csS s).agg/\RdR B hi R r/\Chg (λb=>b=R) W B:=by
 have ad:=eA 0 0 W (IP 0);have v:V (hi<=R/\R<W.heap.size):=⟨f.le,f.lt⟩
 have aD:V _:=f.keepC ad.chg (λ_ _ h=>h) (λh=>h);have HK:V (Chg (λb=>b=R) W _):=ad.chg;have bO:V _:=C7 W 0;have ap:=f.bt s.op (by simp[my]);obtain⟨ah,aq⟩:∃ah,ah=(if s.op=1 then jb (fb s.k) 8 else[])++r:=⟨_,rfl⟩
 have cj:my s++r=s.op::((fw s).flatMap it++ah):=by rw[aq];simp[my]
 rw[cj]at aD;have aQ:V _:=aq;have Q:V _:=C6 _ O;clear f ad aq cj O;go_enter func42,ntmps42;go_wp2_with fail;generalize W.alloc _=aH at aD HK bO⊢;generalize be:W.heap.size=A at bO v⊢;have av:V _:=be;clear be;refine yaj (rm _ _ R _ 1 aD.o xab xab xac) ?_;rintro e am ⟨rfl,aW,bi⟩;rw[LR,show(s.op::((fw s).flatMap _++ah)).getD 0 0=s.op from rfl];have co:V _:=aW;have af:V _:=bO.o.keepC bi (ix v.o);have bQ:V _:=Chg.andThen HK.o bi;clear aW bi aD HK bO;go_upto_region 2 with fail;have aZ:=eA 0 0 am (IP s.op);have bE:V _:=co.o.keepC (aZ.chg) (λ_ _ h=>h) (λh=>h);have ai:V _:=af.o.keepC (aZ.chg (S:=λ_=>False)) (λh=>h);have ca:V _:=C7 am s.op;have aO:V _:=Chg.andThen bQ.o aZ.chg;have ax:V _:=af.o.lt;clear aZ co af bQ;generalize am.alloc _=aU at bE ai ca aO⊢;generalize am.heap.size=S at ca ax⊢;go_wp2_with fail;have bW:=eA 0 0 aU (Pm S);have ak:V _:=bE.o.keepC (bW.chg) (λ_ _ h=>h) (λh=>h);have ao:V _:=ai.o.keepC (bW.chg (S:=λ_=>False)) (λh=>h);have an:V _:=ca.o.keepC (bW.chg (S:=λ_=>False)) (λh=>h);have cJ:V (∀i,i<6->_):=λi hi=>Mf aU S hi;have a0:V _:=Chg.andThen aO.o bW.chg;have F:V (S<aU.heap.size/\aU.heap.size<(aU.alloc (Pm S)).heap.size):=⟨ca.o.lt,by simp⟩
 clear bW bE ai ca aO;generalize aU.alloc _=bA at ak ao an cJ a0 F⊢;generalize aU.heap.size=br at cJ F⊢;have u:V (R<A/\hi<=R/\A<S/\S<br/\br<bA.heap.size/\W.heap.size=A):=⟨v.o.2,v.o.1,ax.o,F.o.1,F.o.2,av.o⟩
 clear F ax v av;go_loopw [18] (λi H=>∃k:Nat,k<=6/\i=h1 k/\V (RdR H hi R (((fw s).drop k).flatMap it++ah))/\V (∃Y,StB H S s.op Y 0/\∀j,j<k->Y.getD j 0=(fw s).getD j 0)/\V (Chg (λb=>b=R\/b=S) bA H)) (λi _=>6-(intOf i).toNat)
 case atStart=>exact⟨0,yae,rfl,ak,⟨_,an.o,λj hj=>by omega⟩,(iv).chg⟩
 case round=>
  obtain⟨k,O,rfl,a2,bm,aj⟩:=hrel;clear ak an;by_cases hlt:k<6
  ·have dc:wr.cell? ⟨br,k,none⟩=some (.pointer (some ⟨S,k+1,none⟩)):=by
    rw[aj.o.cell u.o.2.2.2.2.1 (by have:=u.o;grind)];exact cJ.o k hlt
   go_wp2_with fail;have bU:=a2.o;rw[IQ hlt]at bU;refine yaj (mI _ _ R _ _ bU) ?_;rintro e bD ⟨rfl,cy,aC⟩;obtain⟨Y,cS,Z⟩:=bm.o;have d4:=cS.keepC aC (ix u.o);have c5:=d4.cf k hlt;have aw:=d4.fr (k+1);generalize U:(fw s).getD k 0=y;have G:=fJ (S:=λb=>b=S) bD S (k+1) (h1 y) rfl;have R1:V _:=cy.keepC G (λg aK e=>ix u.o) (by have:=u.o;show ¬(R=S);omega)
   have R2:V (∃Y,StB _ S _ Y 0/\∀j,j<k+1->Y.getD j 0=(fw s).getD j 0):=⟨_,d4.put hlt y,λj hj=>by
    rw[zw _ 0 y k j (i1 cS.len hlt)]
    by_cases e:j=k
    ·rw[h7 e,e,U]
    ·rw[h6 e];exact Z j xaa⟩
   have R3:V _:=Chg.andThen aj.o (Chg.andThen (aC.mono λb _ h=>.inl h) (G.mono λb _ h=>.inr h));clear cy aC cS d4 Z G a2 bU bm aj dc U;go_wp2_with fail;go_roundw;exact⟨k+1,by omega,by go_num,R1,R2,R3⟩;simp[intOf];omega
  obtain rfl:k=6:=xaa;obtain⟨Y,(C:V _),(cz:V _)⟩:=bm.o;have bh:=C.o.c0;have ab:V _:=ao.o.keepC aj.o (ix u.o);have cp:V _:=Chg.new a0.o aj.o (λi hi h=>ix u.o);clear bm ao a0 aj;go_upto_if 29 with fail
  go_cut [] from 29 to 33 (λbb=>∃z,V (StB bb S s.op Y z/\StB bb A 0 [0,0,0,0,0,0] 0)/\V (csS s=vl s.op Y z)/\V (RdR bb hi R r/\Chg (λb=>b=R) W bb))
  case first=>
   have ar:V (∀z,z=(if s.op=1 then fb _ else 0)->csS s=vl _ _ z):=λz a5=>by
    have ba:=cz.o
    unfold vl csS
    rw[a5,ba 0 xaa,ba 1 xaa,ba 2 xaa,ba 3 xaa,ba 4 xaa,ba 5 xaa];rfl
   have aF:RdR _ _ R ah:=a2.o;cases t:(s.op==1)
   ·have e:¬s.op=1:=by grind
    rw[aQ.o,h6 e]at aF;rw[h6 e]at ar;have T:V _:=ar.o _ rfl;have I:V (RdR _ _ R r):=aF;clear cz e aF ar a2;go_wp2_with fail;go_meet;exact⟨0,⟨C.o,ab.o⟩,T,I.o,cp.o⟩
   have e:s.op=1:=by grind
   rw[aQ.o,h7 e]at aF;rw[h7 e]at ar;have T:V _:=ar.o _ rfl;have bI:iP (jb (fb s.k) 8++r) 0 8=(fb s.k:Int):=by rw[nQ 8 (by rw[jC];omega),sB,Nat.mod_eq_of_lt Q.o]
   have ae:V _:=rm _ _ R _ 8 aF xab xab (by rw[yal,jC];omega);rw[bI,List.drop_left' (jC _ _)]at ae;have aA:=Q.o;generalize fb _=q at ae T aA;clear cz e aF ar a2 bI aQ Q;go_wp2_with fail;refine yaj ae.o ?_;rintro e cn ⟨rfl,cI,a7⟩;go_wp2_with fail;refine yaj (F7 _ _) ?_;rintro e cd ⟨rfl,rfl⟩;rw[Int.toNat_natCast];have ag:=C.o.keepC a7 (ix u.o);have au:=ag.c7;have ay:=ag.fr 7;have G:=fJ (S:=λb=>b=S) cd S 7 (.float .f64 q) rfl;have R1:V _:=cI.keepC G (λg aK e=>ix u.o) (by have:=u.o;show ¬(R=S);omega);have R2:V _:=ag.put7 q;have R3:V _:=(ab.o.keepC a7 (by have:=u.o;show ¬(A=R);omega)).keepC G (by have:=u.o;show ¬(A=S);omega);have N:V _:=Chg.new (Chg.andThen cp.o a7) G (λi hi e=>ix u.o);clear G cI a7 ag C ab cp bh ae;go_wp2_with fail;go_meet;exact⟨q,⟨R2.o,R3.o⟩,T,R1.o,N.o⟩
  case rest=>
   obtain⟨z,aa,T,K⟩:=hcut;clear bh C ab cz cp a2 aQ Q;obtain⟨bh,aJ,y2,y3,y4,b5,cA,au⟩:=aa.o.1.at_;simp only[vl]at bh aJ y2 y3 y4 b5 cA au;obtain⟨cg,a1,J,a3,a4,bp,cu,a8⟩:=aa.o.2.at_;simp only[vl]at cg a1 J a3 a4 bp cu a8;have az:=aa.o.2.fr;have aN:=ES wc A (vl s.op Y z);have al:V _:=IN _ A _ (vl s.op Y z) aa.o.2.at_;have I:V (RdR _ _ R r/\Chg _ W _):=⟨K.o.1.keepC aN (λg aK e=>ix u.o) (by have:=u.o;show ¬(R=A);omega),Chg.new K.o.2 aN (λi hi e=>ix u.o)⟩
   clear aN aa K;go_wp2_with fail;obtain⟨bP,aR,bd,bu,bC,ct,X,bx⟩:=al.o;simp only[vl,yai,Nat.zero_add]at bP aR bd bu bC ct X bx;refine yaz (v:=(vl s.op Y z).agg) (by simp[results,results42,go_sem,bP,aR,bd,bu,bC,ct,X,bx,vl]) rfl ⟨by rw[T.o],I.o⟩
theorem Po(w:World)(x):∀j u,([x].map (Value.int .i64))[j]? =some u->(w.alloc (.cells #[h1 x] 3)).cell? ((⟨w.heap.size,0,none⟩:Addr).add j)=some u:=
 World.news_of_block (w:=w.alloc (.cells #[h1 x] 3)) (t:=3) (fr:=(0,0)) (cs:=#[h1 x]) (oE w _)
theorem QP(x):∀u∈[x].map (Value.int .i64),u.oneCell'=true:=by
 intro u a6;simp at a6;subst a6;rfl
def CoO(W:World)(hi R ty e n:Nat)(r:List Int)(L:List Value)(d:Ending)(w':World):Prop:=
 ∃a c,d=.returned (.slice a n c)/\w'.ownsRow W.heap.size ty e (.slice a n c) n L/\RdR w' hi R r/\Chg (λb=>b=R) W w'
structure CoH(W:World)(hi R m ty e F:Nat)(q:Nat->List Int)(Vaa:Nat->Value)(L C:Nat->List Value)(Row:World->Value->Nat->Prop):Prop where
 l0:∀W',Row W' (.slice none 0 0) 0
 ro:∀{k W' u},Row W' u k->W'.ownsRow W.heap.size ty e u k (L k)
 st:∀{k W' u},k<m->W'.ownsRow W.heap.size ty e u (k+1) (L k++C k)->Row W' u (k+1)
 el:∀k,k<m->∀W',RdR W' hi R (q k)->Calls prog F #[.pointer (some ⟨R,0,none⟩)] W' λd w'=>d=.returned (Vaa k)/\RdR w' hi R (q (k+1))/\Chg (λb=>b=R) W' w'
theorem pD{J:Type}{xs:List J}(h z):xs.getD k z=xs[k]:=by simp_all
theorem Pp(h:PZ:=by
 go_wp2_with fail;refine yaj HN.o ?_;rintro e am ⟨rfl,(co:V _)⟩;have fq:m<65536:=ix HX.o
 clear HN HX;go_wp2_with fail;go_loopw [5,8] (λu i H=>∃k:Nat,k<=m/\i=h1 k/\V (RdR H hi R (q k)/\Row H u k/\Chg (λb=>b=R) W H)) (λ_ i _=>m-(intOf i).toNat)
 case atStart=>exact⟨0,yae,rfl,co.o.1,HQ.o.l0 _,co.o.2⟩
 case round=>
  obtain⟨k,O,rfl,a2⟩:=hrel;by_cases hlt:k<m
  ·have y:=a2.o.1.c1;go_wp2_with fail;refine yaj (HQ.o.el k hlt _ a2.o.1) ?_;rintro e bD ⟨rfl,(aA:V _),aC⟩;have r:=HQ.o.ro a2.o.2.1;have j:∀g,u5.ownBlock=some g->_:=λg aK=>(eG r aK).1;have aO:V _:=fe r aC (λg aK e=>i0 (j g aK) HZ.o);have cd:V _:=Chg.andThen a2.o.2.2 aC;have d6:=cd.o.size;have f:V _:=j;clear aC j a2 r;go_wp2_with (first|(at_builtin;(refine wpList_append_lies _ rfl _ _ _ rfl _ _ _ _ _ _ hund hii hz0 hz1 hz2 rfl xab _ _ _ rfl (eN aO.o (eA 0 0 _ _)) _ 1 1 _ rfl rfl (hnew _ k) (hone k) xab (by unfold maxLen;omega) xaa yag _ rfl ?_))|fail);intro g9 cap9 bn bU bK _ _;have bp:=fT bK;have bj:=λo=>eA 0 0 bD o
   have R1:V (RdR bn hi R (q (k+1))/\Row bn (h0 g9 (k+1) cap9) (k+1)/\Chg (λb=>b=R) W bn):=
    ⟨(aA.o.keepC (bj _).chg (λ_ _ h=>h) (λh=>h)).keepC bp (λg aK e=>i0 (f.o g e) HZ.o) (λe=>i0 (f.o R e) HZ.o),HQ.o.st hlt bU,Chg.new (Chg.andThen cd.o (bj _).chg) bp (λi hi e=>ix (f.o i e))⟩
   clear bp bj bU bK aO aA cd f d6;go_wp2_with fail;exact xff
  obtain rfl:k=m:=xaa;obtain⟨a,c,rfl⟩:=iL (HQ.o.ro a2.o.2.1);go_wp2_with fail;go_ret;exact⟨a,c,rfl,HQ.o.ro a2.o.2.1,i2 HR.o a2.o.1,a2.o.2.2⟩):PZ:=h
section
variable{W:World}{hi R:Nat}{r:List Int}
theorem bW.qcj(h:Zp:=by
 go_enter func39,ntmps39;exact Pp):Zp:=h
theorem bW.qez(h:Zp:=by
 have hund:=underlying23;obtain⟨y,bp⟩:∃y:Nat->Int,∀k,y k=xs.getD k 0:=⟨_,λ_=>rfl⟩
 have hnew:=λw k=>Po w (y k);have hone:=λk=>QP (y k)
 obtain⟨q,L,Row,ak,F,h2,aA⟩:∃(q:Nat->List _) (L:Nat->List _) (Row:World->Value->Nat->Prop),q 0=xs.flatMap _++r/\q xs.length=r/\L xs.length=xs.map (Value.int .i64)/\CoH W hi R _ 3 1 40 q (λk=>.int _ (y k)) L (λk=>[y k].map _) Row:=
  ⟨λk=>(xs.drop k).flatMap _++r,λk=>(xs.take k).map (Value.int .i64),_,rfl,by simp,by simp,λ_=>yaw _ _ _ _,id,λO h=>by
   rw[bp,pD O]at h
   rw[yau O,List.map_append]
   exact h,λk O H h=>by
   rw[List.drop_eq_getElem_cons O,List.flatMap_cons,List.append_assoc]at h
   rw[bp,pD O]
   exact mI _ _ R _ _ h⟩
 exact qci):Zp:=h
open bW in
theorem B0{xs:List Int}(f:RdR W hi R (it xs.length++(xs.flatMap it++r))):
  Calls prog 39 #[hZ R,.func (.func 40) #[hZ R] #[]] W (CoO W hi R 3 1 xs.length r (xs.map (Value.int .i64))):=by
 obtain⟨b1,hii,hz0,hz1,hz2⟩:=info_parts rZ;exact qey
theorem bX.qcj(h:Zp:=by
 go_enter func41,ntmps41;exact Pp):Zp:=h
theorem bX.qez(h:Zp:=by
 have hund:=underlying24;obtain⟨y,bp⟩:∃y:Nat->Ste,∀k,y k=csS (xs.getD k Ste.zero):=⟨_,λ_=>rfl⟩
 have hnew:=λw k=>Nj w (y k) 0;have hone:=λk=>QC (y k)
 obtain⟨q,L,Row,ak,F,h2,aA⟩:∃(q:Nat->List _) (L:Nat->List _) (Row:World->Value->Nat->Prop),q 0=xs.flatMap _++r/\q xs.length=r/\L xs.length=iS (xs.map csS)/\CoH W hi R _ 47 8 42 q (λk=>(y k).agg) L (λk=>(y k).cells) Row:=
  ⟨λk=>(xs.drop k).flatMap _++r,λk=>iS ((xs.take k).map csS),_,rfl,by simp,by simp,λ_=>yaw _ _ _ _,id,λO h=>by
   rw[bp,pD O]at h
   rw[yau O,List.map_append,rh,List.map_singleton,wK]
   exact h,λk O H h=>by
   rw[List.drop_eq_getElem_cons O,List.flatMap_cons,List.append_assoc]at h
   rw[bp,pD O]
   exact Pn _ _ R _ _ h (aw _ (List.getElem_mem _))⟩
 exact qci):Zp:=h
open bX in
theorem B1{xs:List Ste}(aw:∀s∈xs,s.k<18446744073709551616)(f:RdR W hi R (it xs.length++(xs.flatMap my++r))):
  Calls prog 41 #[hZ R,.func (.func 42) #[hZ R] #[]] W (CoO W hi R 47 8 xs.length r (iS (xs.map csS))):=by
 obtain⟨b1,hii,hz0,hz1,hz2⟩:=info_parts Cv;exact qey
theorem bY.qcj(h:Zp:=by
 go_enter func43,ntmps43;exact Pp):Zp:=h
theorem bY.qez(h:Zp:=by
 have hund:=underlying25;obtain⟨y,bp⟩:∃y:Nat->Spn,∀k,y k=xs.getD k Spn.zero:=⟨_,λ_=>rfl⟩
 have hnew:=λw k=>II w (y k) 0;have hone:=λk=>Pb (y k)
 obtain⟨q,L,Row,ak,F,h2,aA⟩:∃(q:Nat->List _) (L:Nat->List _) (Row:World->Value->Nat->Prop),q 0=xs.flatMap _++r/\q xs.length=r/\L xs.length=iB xs/\CoH W hi R xs.length 53 2 44 q (λk=>(y k).agg) L (λk=>(y k).cells) Row:=
  ⟨λk=>(xs.drop k).flatMap qe++r,λk=>iB (xs.take k),_,rfl,by simp,by simp,λ_=>yaw _ _ _ _,id,λO h=>by
   grind[yau,nR,rR],λk O H h=>by
   rw[List.drop_eq_getElem_cons O,List.flatMap_cons,List.append_assoc]at h
   rw[bp,pD O]
   exact Pk _ _ R _ _ (by rw[qe,List.append_assoc]at h;exact h)⟩
 exact qci):Zp:=h
open bY in
theorem B2{xs}(f:RdR W hi R (it xs.length++(xs.flatMap qe++r))):
  Calls prog 43 #[hZ R,.func (.func 44) #[hZ R] #[]] W (CoO W hi R 53 2 xs.length r (iB xs)):=by
 obtain⟨b1,hii,hz0,hz1,hz2⟩:=info_parts xH;exact qey
end
theorem KB.put0{W p bL U aV aa}(t:KB W p bL U aV aa)(v):KB (W.setCell ⟨p,0,none⟩ v) p v U aV aa:=by
 cases t;constructor<;>first|exact tO|simp_all
abbrev Mg(a:Option Addr)(n c:Nat):Obj:=.cells #[.slice a n c,.bool false] 74
structure LdS(w W:World)(A R C B:Nat)(rs:List Int)(x0 x1 x2 x3:Value)(ins:List Int)(ss:List Ste)(os:List Spn):Prop where
 rd:RdR W w.heap.size R rs
 bx:KB W C x0 x1 x2 x3
 ba:KB W A (.slice none 0 0) (.slice none 0 0) (.slice none 0 0) (.int .i64 0)
 oc:OCd W B x0 x1 x2 ins ss os
 kp:Kept 0 0 w W
 lt:w.heap.size<=A/\A<R/\R<C/\C<B/\B<=W.heap.size
section
variable{w W H:World}{A R C I n:Nat}{rs r:List Int}{bF bB bG b3 v bh aJ y2 y3:Value}{ins G xs:List Int}{ss Q ts:List Ste}{a8 u ps:List Spn}
theorem LdS.st(f:LdS w W A R C I rs bF bB bG b3 ins ss a8)(s:RdR H w.heap.size R r)(k:Chg (λb=>b=R) W H)(o v)(hb:KB H C bF bB bG b3->KB (H.setCell ⟨C,o,none⟩ v) C bh aJ y2 y3)(ho:OCd H I bF bB bG ins ss a8->OCd H I bh aJ y2 G Q u):LdS w (H.setCell ⟨C,o,none⟩ v) A R C I r bh aJ y2 y3 G Q u:=by
 obtain⟨F,h2,h3,h4,bK⟩:=f.lt;have h:=fJ (S:=λb=>b=C) H C o v rfl;exact⟨s.keepC h (λg aK e=>by omega) (λe=>by omega),hb (f.bx.keepC k (λe=>by omega)),(f.ba.keepC k (λe=>by omega)).keepC h (λe=>by omega),(ho (f.oc.keepC k (λg aK _ e=>by omega))).keepC h (λg aK _ e=>by omega),Chg.kept (Chg.kept f.kp k (λi e=>by omega)) h (λi e=>by omega),F,h2,h3,h4,yao bK (yao k.size h.size)⟩
theorem OCd.new1(f:OCd W I bF bB bG ins ss a8)(a7:I<=W.heap.size)(ag:xs.length=n)(o:H.ownsRow W.heap.size 3 1 v n (xs.map (Value.int .i64)))(t:OCd H I bF bB bG ins ss a8):OCd H I v bB bG xs ss a8:=by
 subst ag;exact⟨gy o a7,t.r2,t.r3,λg h c=>i0 ((eG o h).1) ((eG f.r2 c).2),λg h c=>i0 ((eG o h).1) ((eG f.r3 c).2),f.d23,f.kl⟩
theorem OCd.new2(f:OCd W I bF bB bG ins ss a8)(a7:I<=W.heap.size)(ag:ts.length=n)(O:∀s∈ts,s.k<18446744073709551616)(o:H.ownsRow W.heap.size 47 8 v n (iS ts))(t:OCd H I bF bB bG ins ss a8):OCd H I bF v bG ins ts a8:=by
 subst ag;exact⟨t.r1,gy o a7,t.r3,λg c h=>i0 ((eG o h).1) ((eG f.r1 c).2),f.d13,λg h c=>i0 ((eG o h).1) ((eG f.r3 c).2),O⟩
theorem OCd.new3(f:OCd W I bF bB bG ins ss a8)(a7:I<=W.heap.size)(ag:ps.length=n)(o:H.ownsRow W.heap.size 53 2 v n (iB ps))(t:OCd H I bF bB bG ins ss a8):OCd H I bF bB v ins ss ps:=by
 subst ag;exact⟨t.r1,t.r2,gy o a7,f.d12,λg c h=>i0 ((eG o h).1) ((eG f.r1 c).2),λg c h=>i0 ((eG o h).1) ((eG f.r2 c).2),f.kl⟩
end
theorem LdS.start(f:YS w a n bs)(al:n<=c)(aC:c<=9223372036854775807):RdR ((w.alloc lC).alloc (Mg a n c)) w.heap.size (w.heap.size+1) bs:=by
 have k:=(eA 0 0 w lC).trans (eA 0 0 _ (Mg a n c));have e:(w.alloc lC).heap.size=w.heap.size+1:=by simp
 have ai:=f.len;subst ai;rw[<-e];refine⟨⟨a,c,by go_simp,⟨rfl,?_⟩,al,aC⟩,by go_simp,by simp,by simp,by omega,f.lt⟩;rcases f.at_ with h|⟨g,off,e,F,h2⟩
 ·exact .inl h
 exact .inr ⟨g,_,e,F,by simp;omega,λj hj=>by rw[k.cell F xaa];grind⟩
theorem QQ{ss:List Ste}(h:∀s∈ss,s.k<18446744073709551616):∀s∈ss.map csS,s.k<18446744073709551616:=λs aw=>by
 obtain⟨u,a6,rfl⟩:=List.mem_map.1 aw
 grind[csS,C6]
theorem ET(w a n c ins ss a8 aL)(f:YS w a n (mq ins ss a8 aL))(al:n<=c)(aC:c<=9223372036854775807)(O:∀s∈ss,s.k<18446744073709551616)(aN:iG ins (ss.map csS) a8 aL=true)(aw:mq ins (ss.map csS) a8 aL=mq ins ss a8 aL):
  Calls prog 12 #[.slice a n c] w λe B=>∃a1 aM J bi a3 aI,e=.returned (.tuple #[iQ a1 ins.length aM J ss.length bi a3 a8.length aI aL,h1 0])/\OCd B w.heap.size (.slice a1 ins.length aM) (.slice J ss.length bi) (.slice a3 a8.length aI) ins (ss.map csS) a8/\Kept 0 0 w B:=by
 have bc:V _:=f;have HSV:V _:=λW I U aV aa aM bi aI (h:OCd W I (.slice _ _ aM) (.slice aV _ bi) (.slice _ _ aI) _ _ _)=>sw W U _ aa _ aM _ bi _ aI _ _ _ _ (OCd.cs h rfl (List.length_map _) rfl) aN;rw[aw]at HSV;have HR:V _:=LdS.start f al aC;have aj:=eA 0 0 (w.alloc lC) (Mg a n c);have HK:V _:=(eA 0 0 w _).trans aj;have bO:V _:=(lG w).keep aj;have hz1:((w.alloc lC).alloc (Mg a n c)).heap.size=w.heap.size+1+1:=by simp
 have cW:V _:=O;generalize bC:mq _ _ _ _=bs at bc HSV HR;have e:bs=71::76::(it ins.length++(ins.flatMap it++(it ss.length++(ss.flatMap my++(it a8.length++(a8.flatMap qe++(it aL++[]))))))):=by rw[<-bC];simp[mq]
 rw[e]at HR;clear f aN aw aj O bC e;go_enter func12,ntmps12;go_upto_region 2 with fail;generalize (w.alloc _).alloc _=aH at HR HK bO hz1⊢;go_wp2_with fail;refine yaj (rm _ _ _ _ 2 HR.o xab xab xac) ?_;rintro e am ⟨rfl,aW,bi⟩;rw[List.drop_succ_cons,List.drop_succ_cons,List.drop_zero]at aW;have co:V _:=aW;have af:V _:=bO.o.keepC bi xaa;have bQ:V _:=Chg.kept HK.o bi (λi hi=>by omega);have hz2:=bi.size;clear aW bi HR HK bO;go_upto_region 4 with fail;have t:=eA 0 0 am lC
 have HL:V (LdS w _ _ _ _ (am.heap.size+1) _ _ _ _ _ [] [] []):=
  ⟨co.o.keepC t.chg (λ_ _ h=>h) (λh=>h),lG _,af.o.keep t,⟨yaw _ _ _ _,yaw _ _ _ _,yaw _ _ _ _,λg h=>by simp[Value.ownBlock]at h,λg h=>by simp[Value.ownBlock]at h,λg h=>by simp[Value.ownBlock]at h,by simp⟩,bQ.o.trans t,by omega,by omega,by omega,by omega,by simp⟩
 clear t co af bQ;generalize am.alloc _=aU at HL⊢;generalize am.heap.size=C at HL hz2⊢;clear hz2 hz1;go_wp2_with fail;refine yaj (B0 HL.o.rd) ?_;rintro e bA ⟨a1,aM,rfl,ch,ar,an⟩;obtain⟨_,aP,ay,aB,bz,bN,f1,f2,f3⟩:=HL.o.bx.keepC an (ix HL.o.lt);have aQ:V _:=HL.o.st ar an 0 _ (λh=>h.put0 _) (HL.o.oc.new1 HL.o.lt.2.2.2.2 rfl ch);clear ch ar an HL;go_upto_region 5 with fail;clear aP ay aB bz bN f1 f2 f3;generalize bA.setCell _ _=bD at aQ⊢;go_wp2_with fail;refine yaj (B1 cW.o aQ.o.rd) ?_;rintro e cn ⟨J,bi,rfl,ch,ar,an⟩;obtain⟨_,aP,ay,aB,bz,bN,f1,f2,f3⟩:=aQ.o.bx.keepC an (ix aQ.o.lt);have b:V _:=aQ.o.st ar an 1 _ (λh=>h.put1 _) (aQ.o.oc.new2 aQ.o.lt.2.2.2.2 (List.length_map _) (QQ cW.o) ch);clear ch ar an aQ;go_upto_region 6 with fail;clear aP ay aB bz bN f1 f2 f3;generalize cn.setCell _ _=cd at b⊢;go_wp2_with fail;refine yaj (B2 b.o.rd) ?_;rintro e cq ⟨a3,aI,rfl,ch,ar,an⟩;obtain⟨_,aP,ay,aB,bz,bN,f1,f2,f3⟩:=b.o.bx.keepC an (ix b.o.lt);have r:V _:=b.o.st ar an 2 _ (λh=>h.put2 _) (b.o.oc.new3 b.o.lt.2.2.2.2 rfl ch);clear ch ar an b;go_upto_region 7 with fail;clear aP ay aB bz bN f1 f2 f3;generalize cq.setCell _ _=bn at r⊢;go_wp2_with fail;refine yaj (mI _ _ _ _ _ r.o.rd) ?_;rintro e a5 ⟨rfl,ar,an⟩;obtain⟨_,aP,ay,aB,bz,bN,f1,f2,f3⟩:=r.o.bx.keepC an (ix r.o.lt);have j:V _:=r.o.st ar an 3 (h1 aL) (λh=>h.put3 _) id;clear ar an r;go_upto_region 8 with fail;clear aP ay aB bz bN f1 f2 f3;generalize a5.setCell _ _=bf at j⊢;have y:=j.o.rd.c1;obtain⟨_,aP,ay,aB,bz,_⟩:=j.o.bx;go_wp2_with fail;refine yaj (HSV.o _ _ _ _ _ _ _ _ j.o.oc) ?_;rintro e aO ⟨v,rfl,ys,ad⟩;obtain⟨g,s,bg,rfl,bp,_⟩:=ys.yz;have u:V _:=LZ _ s a _ bg n c _ _ (bp.ys bc.o.lt) (bc.o.keep (j.o.kp.trans ad));rw[beq_self_eq_true]at u;have G:V _:=j.o.bx.keep ad;have F:V _:=j.o.ba.keep ad;have N:V _:=j.o.oc.keep ad;have K:V _:=j.o.kp.trans ad;have aG:V _:=j.o.lt;clear ys bp ad HSV j aP ay aB bz y;obtain⟨_,bq,aq,aT,b8,az,b5,a0,b9⟩:=F.o;obtain⟨_,aP,ay,aB,bz,_⟩:=G.o;go_wp2_with fail;refine yaj u.o ?_;rintro e Q ⟨rfl,rfl⟩;clear u;go_wp2_with fail;obtain⟨bh,aJ,y2,y3⟩:=nT _ _ _ _ _ _ bq aq aT b8 (.slice a1 ins.length aM) (.slice J ss.length bi) (.slice a3 a8.length aI) (h1 aL);have aX:=j9 aO w.heap.size (.slice a1 ins.length aM) (.slice J ss.length bi) (.slice a3 a8.length aI) (h1 aL);have ai:=aG.o;refine yaz (v:=.tuple #[iQ a1 ins.length aM J ss.length bi a3 a8.length aI aL,h1 0]) (by simp[results,results12,go_sem,bh,aJ,y2,y3]) rfl ⟨a1,aM,J,bi,a3,aI,rfl,(N.o.keepC (aX.chg1 rfl) (λg aK _ e=>by omega)).mono xaa,K.o.new aX xaa⟩
def flE(env:List (List UInt8×Int)):List Value:=env.flatMap λx=>[.string ⟨x.1.toArray⟩,.int .i64 x.2]
def nmL:List (List UInt8):=[[97],[98,50],[99,95],[100],[101],[103],[104]]
theorem Mh(a b):flE (a++b)=flE a++flE b:=by simp[flE]
theorem B3(a):∀k,k<a.length->(flE a)[k*2]? =some (eK (a.getD k ([],0)).1)/\(flE a)[k*2+1]? =some (h1 (a.getD k ([],0)).2):=by
 induction a<;>simp_all[flE]<;>grind
theorem QR:(prog.info? 148).map (λi=>(i.zero,i.size,i.bytes))=some (some (.agg #[.string ⟨#[]⟩,h1 0]),2,24):=by kernel_rfl
theorem mx(w){bW rest o a Q}(au:o.guard=none)(s x)
  (ho:o.op=.call {callee:=.builtin .append,args:=#[s,x],argTypes:=#[146,146]})
  (I) (u) (env) (aw:a.eval s=u) (bq:w.ownsRow I 148 2 u env.length (flE env))
  (b) (v) (ap:a.eval x=h0 b 1 1) (ak:w.cell? ⟨b,0,none⟩=some (.string ⟨v.1.toArray⟩)) (F:w.cell? ⟨b,1,none⟩=some (h1 v.2))
  (f:env.length+1<=1000) (ae:I<=w.heap.size)
  (h:∀g cap n B,n=(env++[v]).length->B.ownsRow I 148 2 (h0 g n cap) n (flE (env++[v]))->Chg (λb=>u.ownBlock=some b) w B->(u.ownBlock=some g\/g=w.heap.size)->wpList prog bW Q rest (a.put o.dst (h0 g n cap)) B):wpList prog bW Q (o::rest) a w:=by
 obtain⟨b1,hi,hz0,hz1,hz2⟩:=info_parts QR;refine wpList_append_lies w au s x 146 ho I 148 b1 _ 2 24 underlying146 hi hz0 hz1 hz2 rfl xab u env.length _ aw bq ⟨b,0,none⟩ 1 1 [.string ⟨v.1.toArray⟩,h1 v.2] ap rfl ?_ ?_ xab (by unfold maxLen;omega) xaa ae _ rfl ?_
 ·intro j u a6;match j,a6 with
  |0,a6=>cases a6;exact ak
  |1,a6=>cases a6;exact F
 ·intro u a6;simp at a6;rcases a6 with rfl|rfl<;>rfl
 intro g cap B F h2 h3 _;have e:env.length+1=(env++[v]).length:=by grind
 rw[e]at F⊢;refine h g cap _ B rfl ?_ (fT h2) h3;rw[Mh];exact F
structure Sw(w:World)(P n cap T:Nat)(a:Option Addr)(bs:List Int)(i:Nat)(env:List (List UInt8×Int))(u:Value)(W:World):Prop where
 rd:RdF W P a n cap i bs
 own:W.ownsRow w.heap.size 148 2 u env.length (flE env)
 tb:∀m,m<7->W.cell? ⟨T,m,none⟩=some (.string ⟨(nmL.getD m []).toArray⟩)
 tl:T<W.heap.size
 wl:w.heap.size<=T
 p0:P<w.heap.size
 nt:u.ownBlock≠some T
 kp:Kept P (P+1) w W
variable{w W H:World}{P n cap T i j:Nat}{a:Option Addr}{bs:List Int}{env:List (List UInt8×Int)}{u:Value}
theorem Sw.step(h:Sw w P n cap T a bs i env u W)(r:RdF H P a n cap j bs)(k:Kept P (P+1) W H):Sw w P n cap T a bs j env u H:=
 have aQ:=h.p0
 have X:=h.wl
 ⟨r,fD h.own k λ_ e=>.inr (ix ((eG h.own e).1)),λm ao=>(k.cell (p:=⟨T,m,none⟩) h.tl (by grind)).trans (h.tb m ao),yak h.tl k.size,X,aQ,h.nt,h.kp.trans k⟩
theorem Sw.keep0(h:Sw w P n cap T a bs i env u W)(k:Kept 0 0 W H):Sw w P n cap T a bs i env u H:=h.step (h.rd.keep0 k) (e8 k)
theorem Sw.next(h:V (Sw w P n cap T a bs i env u W)):Calls prog 14 #[hZ P] W λe H=>e=.returned (h1 (nv bs i:Int))/\Sw w P n cap T a bs (ni bs i) env u H:=
 (iw W P a n cap i bs h.o.rd).mono λ_ _ ⟨e,r,k,_⟩=>⟨e,h.o.step r k⟩
theorem Sw.form(h:Sw w P n cap T a bs i env u W):∃aE cE,u=.slice aE env.length cE:=by
 rcases h.own.2 with⟨e,cj⟩|⟨g,c,_,e,_⟩<;>grind
theorem Sw.call{aE nE cE f xs s}(h:V (Sw w P n cap T a bs i env (.slice aE nE cE) W))(ai:nE<=100)(aO:Dr env bs i f xs m s j):
  Calls prog f (xs ⟨W,P,n,cap,nE,cE,a,aE⟩) W λe H=>e=.returned (.string s)/\Sw w P n cap T a bs j env (.slice aE nE cE) H/\Kept P (P+1) W H:=by
 have ag:=gZ h.o.own;subst ag;refine(aO.2 ⟨W,P,n,cap,env.length,cE,a,aE⟩ W ⟨h.o.rd,⟨rfl,ai,λk O=>?_⟩,Kept.refl _ _ _⟩).mono λ_ _ ⟨e,aw⟩=>⟨e,h.o.step aw.rd aw.kp,aw.kp⟩
 replace O:k<env.length:=O;obtain⟨g,c,e,F,h2⟩:=h.o.own.form xaa;injection e with af;have q:=λm v z=>h.o.own.cells (g:=g) (i4 af) m v z;simp only[iM,Nat.zero_add]at q;have aQ:=h.o.p0;exact⟨g,af,by grind,h2,q _ _ (B3 env k O).1,q _ _ (B3 env k O).2⟩
theorem Sw.last{es v}(h:Sw w P n cap T a bs i env u W)(y:env=es++[v]):∃g cE,u=h0 g env.length cE/\W.cell? ⟨g,es.length*2,none⟩=some (.string ⟨v.1.toArray⟩)/\W.cell? ⟨g,es.length*2+1,none⟩=some (h1 v.2):=by
 have ai:env.length=es.length+1:=by grind
 obtain⟨g,c,e,_,_⟩:=h.own.form xaa;have q:=λm v z=>h.own.cells (g:=g) (i4 e) m v z;simp only[iM,Nat.zero_add]at q;have z:=B3 env es.length xaa;simp_all
theorem Sw.app(h:Sw w P n cap T a bs i env u W)(v){g}(ao:m=(env++[v]).length)(o:H.ownsRow w.heap.size 148 2 (h0 g m c) m (flE (env++[v])))(k:Chg (λb=>u.ownBlock=some b) W H)(aK:u.ownBlock=some g\/g=W.heap.size):Sw w P n cap T a bs i (env++[v]) (h0 g m c) H:=by
 have aQ:=h.p0;subst ao;have aj:Kept w.heap.size W.heap.size W H:=⟨k.os,k.tape,k.output,k.size,λb hb ag=>k.block b hb λe=>ag (eG h.own e)⟩
 refine⟨h.rd.keep aj (.inl aQ),o,λm ao=>(k.cell (p:=⟨T,m,none⟩) h.tl h.nt).trans (h.tb m ao),yak h.tl k.size,h.wl,aQ,?_,h.kp.new aj yad⟩;rcases aK with e|e
 ·show some g≠some T;rw[<-e];exact h.nt
 have:=h.tl;grind[Value.ownBlock]
variable{bs:List Int}
theorem Pq{J:Type}{G:Nat->J->Prop}{R:Nat->J->J->Prop}(h:∀k a,G k a->∃b,G (k+1) b/\R k a b){cg}(ak:G 0 cg):∃f:Nat->J,f 0=cg/\∀k,G k (f k)/\R k (f k) (f (k+1)):=by
 let br:(k:Nat)->{a//G k a}:=λk=>Nat.rec ⟨_,ak⟩ (λk x=>⟨_,(Classical.choose_spec (h k _ x.2)).1⟩) k
 exact⟨_,rfl,λk=>⟨(br k).2,(Classical.choose_spec (h k _ (br k).2)).2⟩⟩
structure Ss where
 e:List (List UInt8×Int)
 o:ByteArray
 i:Nat
def Gs(L Z:Nat)(s:Ss):Prop:=s.e.length=L/\(∀x∈s.e,x.1.length<=5)/\s.o.size<=Z
def nmB(k:Nat):List UInt8:=nmL.getD k []
theorem yK(k):(nmB k).length<=5:=by
 match k with
 |0|1|2|3|4|5|6=>decide
 |k+7=>exact yae
theorem nv3(i):1<=1+(nv bs i:Int)%3/\1+(nv bs i:Int)%3<=3:=xaa
theorem Gs.put{s}(h:Gs L cl s)(k q x j)(ap:x.size<=z):Gs (L+1) (cl+z) ⟨s.e++[(nmB k,q)],s.o++x,j⟩:=
 ⟨by rw[yal,h.1];rfl,λy bp=>by
  rcases List.mem_append.1 bp with c|c
  ·exact h.2.1 y c
  ·rw[List.mem_singleton.1 c];exact yK k,by have:=h.2.2;grind⟩
def ex3(q:Int)(d:Int):Xd->Array Value:=λX=>#[.slice X.aE X.nE X.cE,.int .i64 q,.int .i64 d,.pointer (some ⟨X.P,0,none⟩)]
def inX(bs:List Int)(gap:ByteArray)(k:Nat)(s:Ss):ByteArray:=⟨#[105,110,32]⟩++⟨(nmB k).toArray⟩++⟨#[32,58,32]⟩++⟨(gM (1+nv bs s.i%3)).toArray⟩++⟨#[59]⟩++gap
def R1(bs:List Int)(gap:ByteArray)(k:Nat)(s s':Ss):Prop:=s'=⟨s.e++[(nmB k,1+(nv bs s.i:Int)%3)],s.o++inX bs gap k s,ni bs s.i⟩
def R2(bs:List Int)(gap:ByteArray)(n k:Nat)(s s':Ss):Prop:=∃x j,Dr s.e bs (ni bs s.i) 101 (ex3 (1+(nv bs s.i:Int)%3) 3) 64000 x j/\s'=⟨s.e++[(nmB (n+k),1+(nv bs s.i:Int)%3)],s.o++(⟨#[108,101,116,32]⟩++⟨(nmB (n+k)).toArray⟩++⟨#[32,61,32]⟩++x++⟨#[59]⟩++gap),j⟩
def R3(bs:List Int)(gap:ByteArray)(_:Nat)(s s':Ss):Prop:=∃x j,Dr s.e bs (ni bs s.i) 101 (ex3 (1+(nv bs s.i:Int)%3) 4) 256000 x j/\s'=⟨s.e,s.o++(⟨#[111,117,116,32]⟩++x++⟨#[59]⟩++gap),j⟩
theorem Rh(aK:d.size<=8){s}(h:Gs L cl s):∃f:Nat->Ss,f 0=s/\∀k,Gs (L+k) (cl+k*100) (f k)/\R1 bs d k (f k) (f (k+1)):=
 Pq (G:=λk=>Gs (L+k) (cl+k*100)) (λk a br=>by
  have:=(br.put k (1+(nv bs a.i:Int)%3) (inX bs d k a) (ni bs a.i) (z:=100) (by
   grind[yK,ke,inX,fO]))
  rw[show L+k+1=L+(k+1) by omega,show cl+k*100+100=cl+(k+1)*100 by omega]at this
  exact⟨_,this,rfl⟩) h
theorem Ri(hb:∀i,nv bs i<256)(aK:d.size<=8){s}(n)(h:Gs L cl s):∃f:Nat->Ss,f 0=s/\∀k,Gs (L+k) (cl+k*64100) (f k)/\R2 bs d n k (f k) (f (k+1)):=
 Pq (G:=λk=>Gs (L+k) (cl+k*64100)) (λk a br=>by
  obtain⟨x,j,aO⟩:=Ii br.2.1 hb 3 xab _ (nv3 (bs:=bs) a.i) (ni bs a.i)
  have ap:=aO.1
  have:=(br.put (n+k) (1+(nv bs a.i:Int)%3) (⟨#[108,101,116,32]⟩++⟨(nmB (n+k)).toArray⟩++⟨#[32,61,32]⟩++x++⟨#[59]⟩++d) j (z:=64100) (by
   grind[yK,fO]))
  rw[show L+k+1=L+(k+1) by omega,show cl+k*64100+64100=cl+(k+1)*64100 by omega]at this
  exact⟨_,this,x,j,aO,rfl⟩) h
theorem Rj(hb:∀i,nv bs i<256)(aK:d.size<=8){s}(h:Gs L cl s):∃f:Nat->Ss,f 0=s/\∀k,Gs L (cl+k*256100) (f k)/\R3 bs d k (f k) (f (k+1)):=
 Pq (G:=λk=>Gs L (cl+k*256100)) (λk a br=>by
  obtain⟨x,j,aO⟩:=Ii br.2.1 hb 4 xab _ (nv3 (bs:=bs) a.i) (ni bs a.i)
  have ap:=aO.1
  exact⟨⟨_,_,j⟩,⟨br.1,br.2.1,by
   have:=br.2.2
   grind[fO]⟩,x,j,aO,rfl⟩) h
variable{bs:List Int}
def pJ(l:List (List UInt8)):Array Value:=(l.map λx=>Value.string ⟨x.toArray⟩).toArray
def gapL:List (List UInt8):=[[32],[10],[32,32,35,32,61,32,59,10]]
def bodL:List (List UInt8):=[[112,42,112,32,43,32,49],[101,120,112,40,45,112,41],[112,32,47,32,40,49,32,43,32,112,42,112,41],[109,97,120,40,112,44,32,45,112,41],[103,114,97,100,40,115,117,109,40,112,42,112,42,112,41,44,32,112,41]]
theorem rS{W P r}(k:Kept P (P+1) (w.alloc (.cells (pJ l) r)) W)(aQ:P<w.heap.size)(ao:m<l.length):W.cell? ⟨w.heap.size,m,none⟩=some (.string ⟨(l.getD m []).toArray⟩):=by
 rw[k.cell (p:=⟨w.heap.size,m,none⟩) xac (by show ¬(P<=w.heap.size/\w.heap.size<P+1);omega),yav];simp[pJ,List.getD_eq_getElem?_getD,List.getElem?_eq_getElem ao]
theorem IT(h:∀x∈l,x.length<=z)(m):(⟨(l.getD m []).toArray⟩:ByteArray).size<=z:=by
 rw[fO,yai];cases e:l[m]? with
 |none=>exact yae
 |some x=>exact h x (List.mem_of_getElem? e)
def SrO(w:World)(P n cap:Nat)(a:Option Addr)(bs:List Int)(j:Nat)(t:List UInt8)(e:Ending)(w':World):Prop:=∃g c,e=.returned (.slice (some ⟨g,0,none⟩) t.length c)/\t.length<=c/\YS w' (some ⟨g,0,none⟩) t.length (gU t)/\RdF w' P a n cap j bs/\Kept P (P+1) w w'
theorem Sw.start{W P i env u}(az:RdF W P a n cap i bs)(own:W.ownsRow w.heap.size 148 2 u env.length (flE env))(aX:Kept P (P+1) w W)(bH:P<w.heap.size):V (Sw w P n cap W.heap.size a bs i env u (W.alloc (.cells (pJ nmL) 9))):=
 have k:=eA 0 0 W (.cells (pJ nmL) 9)
 ⟨az.keep0 k,eN own k,λ_ ao=>rS (l:=nmL) (Kept.refl P _ _) (yak bH aX.size) ao,by simp,aX.size,bH,λe=>ix ((eG own e).2),aX.trans (e8 k)⟩
def rpX(gap:ByteArray)(c:Nat)(nl:List UInt8)(x:ByteArray):ByteArray:=⟨#[114,101,112,101,97,116,32]⟩++⟨(gM (c/5%4)).toArray⟩++⟨#[32]⟩++⟨nl.toArray⟩++⟨#[32,61,32]⟩++x++⟨#[59]⟩++gap
def hd0(body gap:ByteArray):ByteArray:=⟨#[]⟩++(⟨#[100,101,102,32,102,40,112,41,32,61,32]⟩++body++⟨#[59]⟩++gap)
theorem EU(W)(a8:List UInt8):(convert 9 22 (.string ⟨a8.toArray⟩)).run prog W=.ok (h0 W.heap.size a8.length (grownCap W a8.length 0 5)) (Lib.bytesWorld W 5 ⟨a8.toArray⟩):=
 Lib.run_convert_string_bytes (P:=prog) W 9 22 5 ⟨a8.toArray⟩ underlying9 underlying22 underlying5
theorem WkM(h:PZ:=by
  try dsimp only at e4
  go_upto_region 31 with (go_at_call 14;refine yaj (Sw.next au) ?_;rintro e a7 ⟨rfl,a2⟩;clear au;have au:V _:=a2;clear a2);go_wp2_with fail;go_loopw [6,19] (λo t W=>∃k:Nat,k<=m3/\t=h1 k/\o=.string (f3 k).o/\V (Sw w P n cap T a bs (f3 k).i (f3 k).e (.slice aE (f2 mm).e.length cE) W)) (λ_ t _=>m3-(intOf t).toNat)
  case atStart=>
   have af:=H3.o.1;exact⟨0,yae,rfl,by rw[af],i1 af au.o⟩
  case round=>
   obtain⟨k,O,rfl,rfl,a2⟩:=hrel;clear au;by_cases hlt:k<m3
   ·have br:=(H3.o.2 k).1;have v:=(H3.o.2 (k+1)).1;obtain⟨x,g,bx,aF⟩:=(H3.o.2 k).2
    have z:((f3 k).o++(⟨#[111,117,116,32]⟩++x++⟨#[59]⟩++d)).size<=1000000:=by
     exact xgo
    have aR:(⟨#[111,117,116,32]⟩++x++⟨#[59]⟩++d:ByteArray).size<=1000000:=by rw[yar]at z;omega
    have HQ:V _:=aF;have b:V _:=a2.o;clear br v aF a2;generalize f3 k=s at*;have ap:=hb s.i;repeat (rw[yar]at z;refine sz2 z ?_;clear z;intro _ z)
    repeat (rw[yar]at aR;refine sz2 aR ?_;clear aR;intro _ aR)
    go_wp2_with (first
     |(go_at_call 14;refine yaj (Sw.next b) ?_;rintro e ba ⟨rfl,a2⟩;clear b;have b:V _:=a2;clear a2)
     |(go_at_call 101;have aj:=Sw.call b HL.o bx;simp only[ex3]at aj;(with_reducible refine yaj aj ?_);clear aj;rintro e am ⟨rfl,a2,-⟩;clear b;have b:V _:=a2;clear a2))
    go_roundw
    case rel=>
     refine⟨k+1,by omega,by go_num,?_,?_⟩
     ·rw[HQ.o]
     rw[HQ.o];exact b.o
    case measure=>simp[intOf];omega
   have bM:k=m3:=xaa;have au:V _:=a2.o;clear a2 O hlt;rw[bM]at au⊢;clear bM k;subst hj;have C:¬((m3:Int)<m3):=xaa;have N:=EU wr t;have aX:V _:=qO wr 5 t;have G:V _:=mS wr 5 ⟨t.toArray⟩;generalize Lib.bytesWorld wr 5 ⟨t.toArray⟩=bD at N aX G;have r:V _:=grownCap_ge wr t.length 0 5;generalize grownCap wr t.length 0 5=aK at N r;rcases ht.o with⟨h4,f⟩|⟨h4,f⟩
   ·rw[f]at N;have cj:¬(4000<((f3 m3).o.size:Int)):=xaa;clear f;go_wp2;go_ret;exact⟨_,aK,rfl,r.o,aX.o,au.o.rd.keep0 G.o,au.o.kp.trans (e8 G.o)⟩
   rw[f]at N;have cj:4000<((f3 m3).o.size:Int):=xaa;clear f;go_wp2;go_ret;exact⟨_,aK,rfl,r.o,aX.o,au.o.rd.keep0 G.o,au.o.kp.trans (e8 G.o)⟩):PZ:=h
theorem WkL(h:PZ:=by
  have HN:V _:=iw _ _ _ _ _ _ _ HR.o;go_upto_region 11 with (go_at_call 14;refine yaj HN.o ?_;rintro e a7 ⟨rfl,K,bY,-⟩;have au:V _:=Sw.start K (fD HO.o bY λ_ e=>.inr (ix ((eG HO.o e).1))) (HK.o.trans bY) hP;clear K bY);clear HN HO HR HK;go_upto_region 12 with fail;change Code.wp _ _ _ _ (a7.alloc (.cells (pJ nmL) 9));generalize a7.alloc (.cells (pJ nmL) 9)=X at*;generalize a7.heap.size=T at*;go_wp2_with fail;go_loopw [5,6,11] (λu o t W=>∃k:Nat,k<=nn/\t=h1 k/\o=.string (f1 k).o/\V (Sw w P n cap T a bs (f1 k).i (f1 k).e u W)) (λ_ _ t _=>nn-(intOf t).toNat)
  case atStart=>
   have e:=HE.o;have af:=H1.o.1;subst e;exact⟨0,yae,rfl,by rw[af],i1 af au.o⟩
  case round=>
   obtain⟨k,O,rfl,rfl,a2⟩:=hrel;clear au HE;by_cases hlt:k<nn
   ·have br:=(H1.o.2 k).1;have v:=(H1.o.2 (k+1)).1;have aF:=(H1.o.2 k).2
    have z:((f1 k).o++inX bs d k (f1 k)).size<=1000000:=by
     exact xgo
    have aR:(inX bs d k (f1 k)).size<=1000000:=by rw[yar]at z;omega
    have bv:V _:=br;have HQ:V _:=aF;have b:V _:=a2.o;clear br v aF a2;unfold R1 inX at HQ;unfold inX at z aR;generalize f1 k=s at*;have ap:=hb s.i
    have HD:V (∀W:World,Calls prog 100 #[h1 (1+(nv bs s.i:Int)%3)] W λe B=>e=.returned (eK (gM (1+nv bs s.i%3)))/\B=W):=λW=>by
     rw[show(1:Int)+(nv bs s.i:Int)%3=((1+nv bs s.i%3:Nat):Int) by omega]
     exact zE _ _ yad xaa W
    unfold eK at HD;generalize (⟨(gM (1+nv bs s.i%3)).toArray⟩:ByteArray)=I at HD HQ z aR;go_upto_region 16 with (go_at_call 14;refine yaj (Sw.next b) ?_;rintro e ba ⟨rfl,a2⟩;clear b;have b:V _:=a2;have al:=a2.tb k xaa;clear a2);change ba.cell? ⟨T,k,none⟩=some (.string ⟨(nmB k).toArray⟩)at al;generalize J:(⟨(nmB k).toArray⟩:ByteArray)=nk at al HQ z aR;repeat (rw[yar]at z;refine sz2 z ?_;clear z;intro _ z)
    repeat (rw[yar]at aR;refine sz2 aR ?_;clear aR;intro _ aR)
    have bZ:(k:Int)<7:=xaa;go_quiet ((go_at_call 100;exact Calls.quiet_of_same (HD.o _)))
    have bE:V (∀(m:Nat) (o:Obj),Sw w P n cap T a bs (ni bs s.i) s.e u5 ((ba.alloc o).drewN m)):=λm o=>(b.o.keep0 (eA 0 0 _ o)).keep0 (eH 0 0 _ m);have bf:V (∀m,((ba.alloc (.cells #[.string nk,h1 (1+(nv bs s.i:Int)%3)] 148)).drewN m).cell? ⟨ba.heap.size,0,none⟩=some (.string ⟨(nmB k).toArray⟩)/\((ba.alloc (.cells #[.string nk,h1 (1+(nv bs s.i:Int)%3)] 148)).drewN m).cell? ⟨ba.heap.size,1,none⟩=some (h1 (1+(nv bs s.i:Int)%3))):=λm=>by rw[J];exact⟨by simp,by simp⟩
    have HL:V (s.e.length+1<=1000):=by have:=bv.o.1;show _<=_;omega
    go_wp2_with (at_builtin;refine mx _ rfl _ _ rfl w.heap.size u5 s.e rfl (bE.o _ _).own ba.heap.size (nmB k,1+(nv bs s.i:Int)%3) rfl (bf.o _).1 (bf.o _).2 HL.o (yao b.o.wl (Nat.le_of_lt (bE.o _ _).tl)) ?_;intro g9 bp n9 bn an N aa bO;have Q:V _:=(bE.o _ _).app _ an N aa bO;clear an N aa bO);exact xgd
   have bM:k=nn:=xaa;have au:V _:=a2.o;clear a2 O hlt;rw[bM]at au⊢;clear bM k;go_upto_region 19 with (go_at_call 14;refine yaj (Sw.next au) ?_;rintro e a7 ⟨rfl,a2⟩;clear au;have au:V _:=a2;clear a2);rw[em];go_wp2_with fail;go_loopw [5,6,14] (λu o t W=>∃k:Nat,k<=mm/\t=h1 k/\o=.string (f2 k).o/\V (Sw w P n cap T a bs (f2 k).i (f2 k).e u W)) (λ_ _ t _=>mm-(intOf t).toNat)
   case atStart=>
    have af:=H2.o.1;exact⟨0,yae,rfl,by rw[af],i1 af au.o⟩
   case round=>
    obtain⟨k,O,rfl,rfl,a2⟩:=hrel;clear au;by_cases hlt:k<mm
    ·have br:=(H2.o.2 k).1;have v:=(H2.o.2 (k+1)).1;obtain⟨x,g,bx,aF⟩:=(H2.o.2 k).2
     have z:((f2 k).o++(⟨#[108,101,116,32]⟩++⟨(nmB (nn+k)).toArray⟩++⟨#[32,61,32]⟩++x++⟨#[59]⟩++d)).size<=1000000:=by
      exact xgo
     have aR:(⟨#[108,101,116,32]⟩++⟨(nmB (nn+k)).toArray⟩++⟨#[32,61,32]⟩++x++⟨#[59]⟩++d:ByteArray).size<=1000000:=by rw[yar]at z;omega
     have bv:V _:=br;have HQ:V _:=aF;have b:V _:=a2.o;obtain⟨aE,cE,a6⟩:=a2.o.form;subst a6;clear br v aF a2;generalize f2 k=s at*;have ap:=hb s.i;have da:(nn:Int)+k<7:=xaa;have C:(k:Int)<mm:=xaa;have HL:V (s.e.length<=100):=by have:=bv.o.1;show _<=_;omega
     go_upto_region 24 with (first
      |(go_at_call 14;refine yaj (Sw.next b) ?_;rintro e ba ⟨rfl,a2⟩;clear b;have b:V _:=a2;clear a2)
      |(go_at_call 101;have aj:=Sw.call b HL.o bx;simp only[ex3]at aj;(with_reducible refine yaj aj ?_);clear aj;rintro e am ⟨rfl,a2,-⟩;clear b;have b:V _:=a2;have al:=a2.tb (nn+k) xaa;clear a2))
     change am.cell? ⟨T,nn+k,none⟩=some (.string ⟨(nmB (nn+k)).toArray⟩)at al;generalize J:(⟨(nmB (nn+k)).toArray⟩:ByteArray)=nk at al HQ z aR;repeat (rw[yar]at z;refine sz2 z ?_;clear z;intro _ z)
     repeat (rw[yar]at aR;refine sz2 aR ?_;clear aR;intro _ aR)
     have bE:V (∀(o:Obj),Sw w P n cap T a bs g s.e _ (am.alloc o)):=λo=>b.o.keep0 (eA 0 0 _ o);have bf:V ((am.alloc (.cells #[.string nk,h1 (1+(nv bs s.i:Int)%3)] 148)).cell? ⟨am.heap.size,0,none⟩=some (.string ⟨(nmB (nn+k)).toArray⟩)/\(am.alloc (.cells #[.string nk,h1 (1+(nv bs s.i:Int)%3)] 148)).cell? ⟨am.heap.size,1,none⟩=some (h1 (1+(nv bs s.i:Int)%3))):=by rw[J];exact⟨by simp,by simp⟩
     have G:V (s.e.length+1<=1000):=by have:=bv.o.1;show _<=_;omega
     go_wp2_with (at_builtin;refine mx _ rfl _ _ rfl w.heap.size (.slice aE s.e.length cE) s.e rfl (bE.o _).own am.heap.size (nmB (nn+k),1+(nv bs s.i:Int)%3) rfl bf.o.1 bf.o.2 G.o (yao b.o.wl (Nat.le_of_lt (bE.o _).tl)) ?_;intro g9 bp n9 bn an N aa bO;have Q:V _:=(bE.o _).app _ an N aa bO;clear an N aa bO);exact xgd
    have bM:k=mm:=xaa;have au:V _:=a2.o;clear a2 O hlt;rw[bM]at au⊢;clear bM k;have C:¬((mm:Int)<mm):=xaa;have U:V ((f2 mm).o.size<=200000):=yao (H2.o.2 mm).1.2.2 xaa;have HL:V ((f2 mm).e.length<=100):=by have:=(H2.o.2 mm).1.1;show _<=_;omega
    rcases h3.o with⟨cN,ah⟩|⟨bL,cN,es,f,q,x,g,y,bx,ai,ah⟩
    ·rcases (by omega:mm=0\/(0<mm/\¬(c:Int)%5=1)) with bL|⟨bL,ab⟩
     ·have bQ:¬(0<(mm:Int)):=xaa;clear bL cN;exact xht
     have bQ:0<(mm:Int):=xaa;exact xht
    have bQ:0<(mm:Int):=xaa;obtain⟨Z,cE,a6,bh,aJ⟩:=au.o.last y;subst a6;have ag:((f2 mm).e.length:Int)-1=(es.length:Int):=by rw[y,yal];simp
    have ae:(es.length:Int)<((f2 mm).e.length:Int):=xaa;clear y;have ad:=HL.o;go_upto_region 28 with fail;have b1:V _:=au.o.keep0 (eA 0 0 wr (.cells #[.string ⟨f.toArray⟩,h1 q] 148))
    have bI:V (∀H,Kept P (P+1) (wr.alloc (.cells #[.string ⟨f.toArray⟩,h1 q] 148)) H->H.cell? ⟨wr.heap.size,0,none⟩=some (.string ⟨f.toArray⟩)):=λH k=>by
     have F:=au.o.rd.lt
     rw[k.cell (p:=⟨wr.heap.size,0,none⟩) xac (by show ¬(P<=wr.heap.size/\wr.heap.size<P+1);omega)]
     simp
    have z:((f2 mm).o++rpX d c f x).size<=1000000:=by have:=U.o;rw[yar];omega
    have aR:(rpX d c f x).size<=1000000:=xaa
    have HD:V (∀W:World,Calls prog 100 #[h1 ((c:Int)/5%4)] W λe B=>e=.returned (eK (gM (c/5%4)))/\B=W):=λW=>by
     rw[show(c:Int)/5%4=((c/5%4:Nat):Int) by omega]
     exact zE _ _ yad xaa W
    unfold rpX at z aR ah;unfold eK at HD;generalize (⟨(gM (c/5%4)).toArray⟩:ByteArray)=I at HD ah z aR;generalize (⟨f.toArray⟩:ByteArray)=nk at bI b1 ah z aR⊢;go_upto_region 29 with (go_at_call 101;have aj:=Sw.call b1 HL.o bx;simp only[ex3]at aj;(with_reducible refine yaj aj ?_);clear aj;rintro e am ⟨rfl,a2,r⟩;have y2:=bI.o am r;clear au b1;have au:V _:=a2;clear a2 r);repeat (rw[yar]at z;refine sz2 z ?_;clear z;intro _ z)
    repeat (rw[yar]at aR;refine sz2 aR ?_;clear aR;intro _ aR)
    go_quiet ((go_at_call 100;exact Calls.quiet_of_same (HD.o _)))
    go_upto_region 30 with fail;subst ah;replace au:V _:=au.o.keep0 (eH 0 0 am nq);(try unfold h0 at au);(try unfold h0);generalize some (⟨Z,0,none⟩:Addr)=aE at au⊢;exact WkM):PZ:=h
theorem Rk(hb:∀i,nv bs i<256){i v:Nat}(al:nv bs (ni bs i)=c)(Z:v<3)(bA:(nv bs i:Int)%3=(v:Int))(y:d.size<=8)(O:⟨(gapL.getD v []).toArray⟩=d)
  {ay}{aj:Nat} (ck:(c:Int)/2%5=(aj:Int)) (U:aj<5) (Q:⟨(bodL.getD aj []).toArray⟩=ay) (I:ay.size<=30)
  {aY:Ss} (ak:((c:Int)%2=1/\V (aY=⟨[([102],0)],hd0 ay d,ni bs (ni bs i)⟩))\/((c:Int)%2=0/\V (aY=⟨[],⟨#[]⟩,ni bs (ni bs i)⟩)))
  {f1:Nat->Ss}{J ab} (H1:V (f1 0=⟨aY.e,aY.o,ni bs aY.i⟩/\∀k,Gs (J+k) (ab+k*100) (f1 k)/\R1 bs d k (f1 k) (f1 (k+1)))) (B:J<=1) (am:ab<=1000)
  {nn:Nat} (ai:1+(nv bs (ni bs (ni bs i)):Int)%3=(nn:Int)) (_hn3:nn<=3)
  {f2:Nat->Ss}{L2 ad} (H2:V (f2 0=⟨(f1 nn).e,(f1 nn).o,ni bs (f1 nn).i⟩/\∀k,Gs (L2+k) (ad+k*64100) (f2 k)/\R2 bs d nn k (f2 k) (f2 (k+1)))) (F:L2<=4) (ao:ad<=2000)
  {mm:Nat} (em:(nv bs (f1 nn).i:Int)%4=(mm:Int)) (_hm3:mm<=3)
  {bJ} (h3:V (((mm=0\/¬(c:Int)%5=1)/\bJ=f2 mm)\/(0<mm/\(c:Int)%5=1/\∃es f q x g,(f2 mm).e=es++[(f,q)]/\Dr (f2 mm).e bs (f2 mm).i 101 (ex3 q 2) 16000 x g/\(rpX d c f x).size<=100000/\bJ=⟨(f2 mm).e,(f2 mm).o++rpX d c f x,g⟩)))
  {f3:Nat->Ss}{h ae} (H3:V (f3 0=⟨bJ.e,bJ.o,ni bs bJ.i⟩/\∀k,Gs h (ae+k*256100) (f3 k)/\R3 bs d k (f3 k) (f3 (k+1)))) (_hL3:h<=10) (ap:ae<=220000)
  {m3:Nat} (e4:1+(nv bs bJ.i:Int)%3=(m3:Int)) (ah:m3<=3)
  {t}{j} (hj:j=(f3 m3).i) (ht:V (((f3 m3).o.size<=4000/\⟨t.toArray⟩=(f3 m3).o)\/(4000<(f3 m3).o.size/\⟨t.toArray⟩=(f3 m3).o.extract 0 4000))) {P} (K:RdF w P a n cap i bs):Calls prog 84 #[hZ P] w (SrO w P n cap a bs j t):=by
 have hP:=K.lt;have af:(c:Int)<256:=ix (hb (ni bs i))
 have au:V _:=K;clear K;go_enter func84,ntmps84;go_upto_region 2 with fail;change Code.wp _ _ _ _ (w.alloc (.cells (pJ gapL) 9));have bK:V _:=au.o.keep0 (eA 0 0 w (.cells (pJ gapL) 9));have HN:V _:=iw _ _ _ _ _ _ _ bK.o;have bI:V (∀W,Kept P (P+1) (w.alloc (.cells (pJ gapL) 9)) W->_):=λW k=>rS (l:=gapL) (m:=v) k hP Z;have HK:V _:=eA P (P+1) w (.cells (pJ gapL) 9);clear au bK;generalize w.alloc (.cells (pJ gapL) 9)=ax at*;rw[O]at bI;clear O;go_upto_region 5 with (go_at_call 14;refine yaj HN.o ?_;rintro e bo ⟨rfl,K,av,-⟩;have aK:=bI.o bo av;have bQ:V _:=HK.o.trans av;have C:V _:=iw _ _ _ _ _ _ _ K;clear K av);clear aK bI HN HK;rw[al]at C;rcases ak with⟨c2,HE⟩|⟨c2,HE⟩
 ·go_upto_region 7 with (go_at_call 14;refine yaj C.o ?_;rintro e aU ⟨rfl,(aG:V _),aZ,-⟩;have aO:V _:=bQ.o.trans aZ;have ag:=aG.o.lt;clear aZ);clear C bQ;go_upto_region 8 with fail;change Code.wp _ _ _ _ (aU.alloc (.cells (pJ bodL) 9));have bM:=rS (l:=bodL) (m:=aj) (Kept.refl P (P+1) (aU.alloc (.cells (pJ bodL) 9))) ag U;rw[Q]at bM;have X:V _:=aG.o.keep0 (eA 0 0 aU (.cells (pJ bodL) 9));have a0:V _:=aO.o.trans (eA _ _ aU (.cells (pJ bodL) 9));clear aG aO;generalize aU.alloc (.cells (pJ bodL) 9)=cc at*
  have z:(hd0 ay d).size<=1000:=by
   simp only[hd0,yar,fO,yaq,List.length_nil];omega
  unfold hd0 at z HE;have aR:(⟨#[100,101,102,32,102,40,112,41,32,61,32]⟩++ay++⟨#[59]⟩++d:ByteArray).size<=1000000:=by rw[yar]at z;omega
  replace z:=yao z (by decide:1000<=1000000);repeat (rw[yar]at z;refine sz2 z ?_;clear z;intro _ z)
  repeat (rw[yar]at aR;refine sz2 aR ?_;clear aR;intro _ aR)
  have a2:=eA 0 0 cc (.cells #[.string ⟨#[102]⟩,h1 0] 148);have dT:V _:=X.o.keep0 a2;have cp:V _:=a0.o.trans (e8 a2);clear X a0;have G:=cp.o.size;go_upto_region 10 with (at_builtin;refine mx _ rfl _ _ rfl w.heap.size iR [] rfl (yaw _ _ _ _) cc.heap.size ([102],0) rfl xac xac xab G ?_;intro g9 bp n9 ca an N aa _;subst an;have r:Kept 0 0 _ ca:=⟨aa.os,aa.tape,aa.output,aa.size,λb hb _=>aa.block b hb (λe=>by cases e)⟩;have HO:V (ca.ownsRow w.heap.size 148 2 (h0 g9 1 bp) ([([102],0)]:List (List UInt8×Int)).length (flE [([102],0)])):=N;have HR:V _:=dT.o.keep0 r;have HK:V _:=cp.o.trans (e8 r);clear aa r N);clear dT cp G z aR;exact WkL
 go_upto_region 10 with (go_at_call 14;refine yaj C.o ?_;rintro e aU ⟨rfl,(HR:V _),aZ,-⟩;have HK:V _:=bQ.o.trans aZ;clear aZ);have HO:V (aU.ownsRow w.heap.size 148 2 (.slice none 0 0) ([]:List (List UInt8×Int)).length (flE [])):=yaw aU w.heap.size 148 2;clear C bQ;exact WkL
end
section
variable{bs:List Int}
theorem Rl(hb:∀i,nv bs i<256)(i):∃(t:List UInt8) (j:Nat),t.length<=4000/\∀{w:World}{P n cap:Nat}{a:Option Addr},RdF w P a n cap i bs->Calls prog 84 #[hZ P] w (SrO w P n cap a bs j t):=by
 obtain⟨v,Z,bA⟩:∃k:Nat,k<3/\(nv bs i:Int)%3=k:=⟨nv bs i%3,by omega,by omega⟩
 obtain⟨c,al⟩:∃c,nv bs (ni bs i)=c:=⟨_,rfl⟩
 have aC:=hb (ni bs i);rw[al]at aC;obtain⟨aj,U,ck⟩:∃k:Nat,k<5/\c/2%5=(k:Int):=⟨c/2%5,by omega,by omega⟩
 have y:=IT (l:=gapL) (z:=8) xab v;have I:=IT (l:=bodL) (z:=30) xab aj;generalize O:(⟨_⟩:ByteArray)=d at y;generalize Q:(⟨_⟩:ByteArray)=ay at I
 obtain⟨aY,f8,ak,az,l⟩:∃aY L,(((c:Int)%2=1/\V (aY=⟨[([102],0)],hd0 ay d,ni bs (ni bs i)⟩))\/((c:Int)%2=0/\V (aY=⟨[],⟨#[]⟩,ni bs (ni bs i)⟩)))/\Gs L 1000 aY/\L<=1:=by
  rcases (by omega:(c:Int)%2=1\/(c:Int)%2=0) with h|h
  ·exact⟨_,1,.inl ⟨h,rfl⟩,⟨rfl,by simp_all,by grind[hd0,fO,yaq]⟩,by decide⟩
  exact⟨_,0,.inr ⟨h,rfl⟩,⟨rfl,(λ_ h=>by cases h),yae⟩,by decide⟩
 obtain⟨f1,e⟩:=Rh (bs:=bs) y (s:=⟨aY.e,aY.o,ni bs aY.i⟩) az;have B:aY.i=ni bs (ni bs i):=by rcases ak with h|h<;>rw[h.2.o]
 obtain⟨nn,cp,ai⟩:∃n:Nat,n<=3/\1+(nv bs (ni bs (ni bs i)):Int)%3=n:=⟨1+nv bs (ni bs (ni bs i))%3,by omega,by omega⟩
 obtain⟨f2,b⟩:=Ri hb y (s:=⟨(f1 _).e,(f1 nn).o,ni bs (f1 nn).i⟩) nn (e.2 _).1;obtain⟨mm,r,em⟩:∃n:Nat,n<=3/\(nv bs (f1 nn).i:Int)%4=n:=⟨nv bs (f1 nn).i%4,by omega,by omega⟩
 have a0:=(b.2 mm).1
 obtain⟨bJ,h3,b9⟩:∃bJ:Ss,(((mm=0\/¬(c:Int)%5=1)/\bJ=f2 _)\/(0<mm/\(c:Int)%5=1/\∃es f q x g,(f2 mm).e=es++[(f,q)]/\Dr (f2 mm).e bs (f2 mm).i 101 (ex3 q 2) 16000 x g/\(rpX d c f x).size<=100000/\bJ=⟨(f2 mm).e,(f2 mm).o++rpX d c f x,g⟩))/\Gs _ 220000 bJ:=by
  by_cases h:mm=0\/¬(c:Int)%5=1
  ·exact⟨_,.inl ⟨h,rfl⟩,a0.1,a0.2.1,yao a0.2.2 xaa⟩
  obtain⟨m,rfl⟩:∃m,mm=m+1:=⟨mm-1,by omega⟩
  obtain⟨bF,bE,_,cj⟩:=(b.2 m).2;obtain⟨x,g,aO⟩:=Ii a0.2.1 hb 2 xab _ (nv3 (bs:=bs) (f2 m).i) (f2 (m+1)).i
  have z:(rpX d c (nmB (nn+m)) x).size<=17000:=by
   have:=aO.1;have:=yK (nn+m);have:=ke (c/5%4);simp only[rpX,yar,fO,yaq,List.length_nil];omega
  exact⟨_,.inr ⟨by omega,by omega,_,_,_,x,_,by rw[cj],aO,by omega,rfl⟩,a0.1,a0.2.1,by have:=a0.2.2;grind⟩
 obtain⟨f3,u⟩:=Rj hb y (s:=⟨bJ.e,bJ.o,ni bs bJ.i⟩) b9;obtain⟨m3,ah,e4⟩:∃n:Nat,n<=3/\1+(nv bs bJ.i:Int)%3=n:=⟨1+nv bs bJ.i%3,by omega,by omega⟩
 obtain⟨t,h4,ht⟩:∃t:List _,t.length<=4000/\(((f3 _).o.size<=4000/\⟨t.toArray⟩=(f3 _).o)\/(4000<(f3 m3).o.size/\⟨t.toArray⟩=(f3 _).o.extract 0 _)):=by
  by_cases h:(f3 m3).o.size<=4000
  ·exact⟨_,h,.inl ⟨h,rfl⟩⟩
  exact⟨((f3 m3).o.extract 0 4000).data.toList,by show ByteArray.size _<=_;rw[ByteArray.size_extract];omega,.inr ⟨by omega,rfl⟩⟩
 exact⟨t,_,h4,λK=>Rk hb al Z bA y O ck U Q I ak e l yad ai cp b xaa xaa em r h3 u xaa yad e4 ah rfl ht K⟩
