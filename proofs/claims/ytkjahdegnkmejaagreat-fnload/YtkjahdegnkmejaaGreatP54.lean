import Derived.Test.YtkjahdegnkmejaaGreatP53
namespace Go.Proofs.Z
open Tryz
set_option maxRecDepth 1000000
set_option maxHeartbeats 0
open Go.RowKit Flt
attribute[local go_sem] eE eC eB
variable{w aq F aK a7:World}{bs xs ins:List Int}{aO af:List Ste}{A I C k n cr g cap:Nat}{bf bC u bR v:Value}{b a:Option Addr}{ay:Int}{ba:List Spn}
structure LS(W w1:World)(A C B:Nat)(x0 u v:Value)(pk:Int)(ins:List Int)(ss:List Ste)(os:List Spn):Prop where
 ba:KB W A (.slice none 0 0) (.slice none 0 0) (.slice none 0 0) (.int .i64 0)
 bc:KB W C x0 u v (.int .i64 pk)
 oc:OCd W B x0 u v ins ss os
 ch:Chg (λb=>b=C\/B<=b) w1 W
 bz:B<=W.heap.size
theorem LS.keep{W}(f:LS W aK A C I bC u v ay ins af ba)(k:Kept 0 0 W F):LS F aK A C I bC u v ay ins af ba:=
 ⟨f.ba.keep k,f.bc.keep k,f.oc.keep k,Chg.trans f.ch k.chg,yao f.bz k.size⟩
theorem LS.kept{W}(f:LS W aK A C I bC u v ay ins af ba)(k:Kept 0 0 w aK)(B:w.heap.size<=C)(N:w.heap.size<=I):Kept 0 0 w W:=Chg.kept k f.ch (λi hi=>by omega)
theorem LS.put{W aK A C I bC u v ay ins af ba}(f:LS W aK A C I bC u v ay ins af ba)(bl:A<C)(bn:C<I){o y j bR v' t l aO d}(hb:KB (W.setCell ⟨C,o,none⟩ y) C j bR v' (ih t))(aR:OCd W I j bR v' l aO d):
  LS (W.setCell ⟨C,o,none⟩ y) aK A C I j bR v' t l aO d:=by
 have k:=fh (S:=λb=>b=C) W C o y rfl;exact⟨f.ba.keepC k xaa,hb,aR.keepC k (λg az _ e=>by omega),Chg.trans f.ch (k.mono λb _ h=>.inl h),yao f.bz k.size⟩
theorem OCd.addS{W bc s}(f:OCd W I bf u bc ins af ba)(k:Kept 0 0 W aq)(G:bR=ia g n cap)(aR:F.ownsRow I 43 8 bR (af.length+1) (gL af++s.cells))(az:Chg (λb=>u.ownBlock=some b) aq F)(aB:u.ownBlock=some g\/W.heap.size<=g)(aw:s.k<18446744073709551616):OCd F I bf bR bc ins (af++[s]) ba:=by
 have f1:=f.keep k;have e:bR.ownBlock=some g:=jL G
 refine⟨eQ f1.r1 az (λb hb c=>f.d12 b hb c),by rw[yal,mZ,q7];exact aR,eQ f1.r3 az (λb hb c=>f.d23 b c hb),λb hb c=>?_,f.d13,λb hb c=>?_,λx aH=>?_⟩
 ·rw[e]at c;injection c with c;subst c;rcases aB with h|h
  ·exact f.d12 _ hb h
  have:=(eF f.r1 hb).2;omega
 ·rw[e]at hb;injection hb with hb;subst hb;rcases aB with h|h
  ·exact f.d23 _ h c
  have:=(eF f.r3 c).2;omega
 rcases List.mem_append.1 aH with h|h
 ·exact f.kl x h
 simp at h;subst h;exact aw
theorem OCd.addP{W bb s}(f:OCd W I bf bb u ins af ba)(k:Kept 0 0 W aq)(G:bR=ia g n cap)(aR:F.ownsRow I 56 2 bR (ba.length+1) (gZ ba++s.cells))(az:Chg (λb=>u.ownBlock=some b) aq F)(aB:u.ownBlock=some g\/W.heap.size<=g):OCd F I bf bb bR ins af (ba++[s]):=by
 have f1:=f.keep k;have e:bR.ownBlock=some g:=jL G
 refine⟨eQ f1.r1 az (λb hb c=>f.d13 b hb c),eQ f1.r2 az (λb hb c=>f.d23 b hb c),by rw[yal,lG,oR];exact aR,f.d12,λb hb c=>?_,λb hb c=>?_,f.kl⟩
 ·rw[e]at c;injection c with c;subst c;rcases aB with h|h
  ·exact f.d13 _ hb h
  have:=(eF f.r1 hb).2;omega
 rw[e]at c;injection c with c;subst c;rcases aB with h|h
 ·exact f.d23 _ hb h
 have:=(eF f.r2 hb).2;omega
theorem OCd.setI{W}(h:W.ownsRow I 3 1 bf ins.length (ins.map (Value.int .i64))):OCd W I bf (.slice none 0 0) (.slice none 0 0) ins [] []:=
 ⟨h,yaw _ _ _ _,yaw _ _ _ _,λg _ c=>by simp[Value.ownBlock]at c,λg _ c=>by simp[Value.ownBlock]at c,λg c=>by simp[Value.ownBlock]at c,by simp⟩
def LLo(w:World)(bs:List Int)(e:Ending)(w':World):Prop:=
 (lw bs=false->∃a1 m1 d1 a2 m2 d2 a3 m3 d3 pk,e=.returned (.tuple #[jh a1 m1 d1 a2 m2 d2 a3 m3 d3 pk,.bool false]))/\
 (lw bs=true->∃a1 d1 a2 d2 a3 d3,∃ss:List Ste,e=.returned (.tuple #[jh a1 (n1L bs) d1 a2 (n2L bs) d2 a3 (n3L bs) d3 (pkL bs),.bool true])/\ss.map nk=(ssL bs).map nk/\OCd w' w.heap.size (.slice a1 (n1L bs) d1) (.slice a2 (n2L bs) d2) (.slice a3 (n3L bs) d3) (jW bs) ss (osL bs))/\Kept 0 0 w w'
theorem pO(h:¬p4L bs+2<=bs.length):lw bs=false:=yay h
theorem Qj(h:¬4<=bs.length):lw bs=false:=pO (by have:=uh bs;unfold p4L;unfold p1L at this;omega)
theorem Qk(h:¬p1L bs<=bs.length):lw bs=false:=pO (by have:=uh bs;unfold p4L;omega)
theorem Ql(h:¬p1L bs+2<=bs.length):lw bs=false:=pO (by have:=uh bs;unfold p4L;omega)
theorem PN(J:k<=n2L bs)(h:¬gF bs (p1L bs+2) k<=bs.length):lw bs=false:=pO (by
 have:=ug bs (p1L bs+2) k (n2L bs-k)
 rw[show k+(n2L bs-k)=n2L bs by omega]at this
 unfold p4L p3L
 omega)
theorem Qm(h:¬p3L bs+2<=bs.length):lw bs=false:=pO (by unfold p4L;omega)
theorem Qn(J:k<=n3L bs)(h:¬p3L bs+2+4*k<=bs.length):lw bs=false:=pO (by unfold p4L;omega)
theorem mO{W:World}{d}(f:W.ownsRow I 3 1 (.slice b k d) k (xs.map (Value.int .i64)))(h:0<k):∃g,b=some ⟨g,0,none⟩/\I<=g/\g<W.heap.size/\∀j,j<k->W.cell? ⟨g,j,none⟩=some (ih (xs.getD j 0)):=by
 obtain⟨g,cap,e,B,N⟩:=f.form h;injection e with ad be ah;have ag:xs.length=k:=by have:=f.1;rw[List.length_map]at this;omega
 refine⟨g,ad,B,N,λj hj=>?_⟩;obtain⟨aI,cap',a2,_,_,ai⟩:=xJ f hj;injection a2 with l _ _;rw[ad]at l;injection l with l;injection l with l;subst l;exact ai
theorem YL.ys{hi}(f:YL w hi a n xs)(h:Bts xs):YS w a n xs:=⟨f.len,h,f.at_.imp id λ⟨g,an,e,_,N,h3⟩=>⟨g,an,e,N,h3⟩⟩
theorem LS.yl{W}(f:LS W aK A C I bC u v ay ins af ba)(y:YL aK A a n bs)(B:A<C)(N:C<I):YL W A a n bs:=y.keepC f.ch (λg az e=>by omega)
theorem xZ(h:Bts bs)(p):fe bs p 2=((fe bs p 2).toNat:Int)/\(fe bs p 2).toNat<65536:=by
 have:=K3 h p;omega
theorem Ci(bs p):(iP bs p 1).getD 0 0=fe bs p 2:=by
 rw[q8 bs p xab];rfl
theorem Is{xs ys a b}(h:xs.map nk=ys.map nk)(e:nk a=nk b):(xs++[a]).map nk=(ys++[b]).map nk:=by
 rw[List.map_append,List.map_append,h];simp[e]
theorem LS.grow{W}(f:LS W aK A C I bC u v ay ins af ba)(bl:A<C)(bn:C<I){j}(au:∀g,j=some g->I<=g)(l:Kept 0 0 W aq)(az:Chg (λb=>j=some b) aq a7):KB a7 A (.slice none 0 0) (.slice none 0 0) (.slice none 0 0) (ih 0)/\KB a7 C bC u v (ih ay)/\Chg (λb=>b=C\/I<=b) aK a7/\I<=a7.heap.size:=
 ⟨(f.ba.keep l).keepC az (λe=>i4 (au _ e)),(f.bc.keep l).keepC az (λe=>i4 (au _ e)),Chg.trans (Chg.trans f.ch l.chg) (az.mono λb _ h=>.inr (au b h)),yao f.bz (yao l.size az.size)⟩
theorem LS.addS{W s}(f:LS W aK A C I bC (.slice b k cr) v ay ins af ba)(bl:A<C)(bn:C<I)(ag:af.length=k)(l:Kept 0 0 W aq)(aR:a7.ownsRow I 43 8 (ia g (k+1) cap) (k+1) (gL af++s.cells))(az:aq.grownBy a7 (Value.slice b k cr).ownBlock)(aB:(Value.slice b k cr).ownBlock=some g\/W.heap.size<=g)(aw:s.k<18446744073709551616):
  LS (a7.setCell ⟨C,1,none⟩ (ia g (k+1) cap)) aK A C I bC (ia g (k+1) cap) v ay ins (af++[s]) ba:=by
 obtain⟨B,N,h3,bp⟩:=f.grow bl bn (λg az=>(eF f.oc.r2 az).1) l (fA az);have o:=f.oc.addS l rfl (jn ag aR) (fA az) aB aw;have al:=fh (S:=λb=>b=C) a7 C 1 (ia g (k+1) cap) rfl;exact⟨B.keepC al xaa,N.put1 _,o.keepC al (λg az _ e=>by omega),Chg.trans h3 (al.mono λb _ h=>.inl h),yao bp al.size⟩
theorem LS.addP{W s}(f:LS W aK A C I bC v (.slice b k cr) ay ins af ba)(bl:A<C)(bn:C<I)(ag:ba.length=k)(l:Kept 0 0 W aq)(aR:a7.ownsRow I 56 2 (ia g (k+1) cap) (k+1) (gZ ba++s.cells))(az:aq.grownBy a7 (Value.slice b k cr).ownBlock)(aB:(Value.slice b k cr).ownBlock=some g\/W.heap.size<=g):
  LS (a7.setCell ⟨C,2,none⟩ (ia g (k+1) cap)) aK A C I bC v (ia g (k+1) cap) ay ins af (ba++[s]):=by
 obtain⟨B,N,h3,bp⟩:=f.grow bl bn (λg az=>(eF f.oc.r3 az).1) l (fA az);have o:=f.oc.addP l rfl (jn ag aR) (fA az) aB;have al:=fh (S:=λb=>b=C) a7 C 2 (ia g (k+1) cap) rfl;exact⟨B.keepC al xaa,N.put2 _,o.keepC al (λg az _ e=>by omega),Chg.trans h3 (al.mono λb _ h=>.inl h),yao bp al.size⟩
theorem uq(bs p):∀j,fe bs p (j+1)=bs.getD p 0+256*fe bs (p+1) j
 |0=>by simp[fe]
 |j+1=>by
  rw[fe,uq bs p j,fe]
  rw[show p+(j+1)=p+1+j by omega]
  rw[Int.pow_succ,Int.mul_add]
  have:∀a b c:Int,a*(b*256)=256*(a*b):=λa b _=>by rw[<-Int.mul_assoc,Int.mul_comm]
  rw[this _ _ 0]
  omega
theorem Lp(h:Bts bs)(p){j}(hj:j<=7):0<=fe bs p j/\fe bs p j<72057594037927936:=by
 have B:=ki h p j
 have N:(256:Int) ^ j<=256 ^ 7:=by
  rcases (by omega:j=0\/j=1\/j=2\/j=3\/j=4\/j=5\/j=6\/j=7) with rfl|rfl|rfl|rfl|rfl|rfl|rfl|rfl<;>decide
 have h3:(256:Int) ^ 7=72057594037927936:=xab;omega
theorem LS.setS{W S}(f:LS W aK A C I bC u v ay ins af ba)(bl:A<C)(bn:C<I)(a5:I<=S)(aj:∀g,bC.ownBlock=some g->g≠S)(G:∀g,u.ownBlock=some g->g≠S)(aL:∀g,v.ownBlock=some g->g≠S)(o y):LS (W.setCell ⟨S,o,none⟩ y) aK A C I bC u v ay ins af ba:=by
 have k:=fh (S:=λb=>b=S) W S o y rfl;exact⟨f.ba.keepC k xaa,f.bc.keepC k xaa,⟨eQ f.oc.r1 k (λg az e=>aj g az e),eQ f.oc.r2 k (λg az e=>G g az e),eQ f.oc.r3 k (λg az e=>aL g az e),f.oc.d12,f.oc.d13,f.oc.d23,f.oc.kl⟩,Chg.trans f.ch (k.mono λb _ h=>.inr xaa),yao f.bz k.size⟩
theorem OI(w a n c bs)(f:YS w a n bs)(hn:n<=1048576):
  Calls prog 16 #[.slice a n c] w λe O=>LLo w bs e O:=by
 obtain⟨bY,cU,cg,b8,cc⟩:=info_parts xI;obtain⟨cd,dv,dc,ez,eP⟩:=info_parts sj;have ao:V (Bts bs):=f.lt;have HL:V (bs.length=n):=f.len;have bj:=eA 0 0 w gK;have bb:=eA 0 0 (w.alloc gK) gK;have cN:(w.alloc gK).heap.size=w.heap.size+1:=by simp
 have cb:((w.alloc gK).alloc gK).heap.size=w.heap.size+1+1:=by simp
 have bn:=kz (w.alloc gK);rw[cN]at bn;have H1:V (LS ((w.alloc gK).alloc gK) ((w.alloc gK).alloc gK) w.heap.size (w.heap.size+1) (w.heap.size+1+1) (.slice none 0 0) (.slice none 0 0) (.slice none 0 0) 0 [] [] []):=⟨(kz w).keep bb,bn,OCd.setI (yaw _ _ _ _),(i3).chg,by omega⟩
 have aA:V _:=bj.trans bb
 have dl:V (YL ((w.alloc gK).alloc gK) w.heap.size a n bs):=⟨f.len,by
  have f1:=f.keep (bj.trans bb)
  rcases f.at_ with h|⟨g,an,e,B,N⟩
  ·exact .inl h
  ·exact .inr ⟨g,an,e,B,by omega,λk J=>by rw[(bj.trans bb).cell (p:=⟨g,an+k,none⟩) B xaa];exact N k J⟩⟩
 clear f bj bb cN cb bn;go_enter func16,ntmps16;go_upto_region 2 with fail;generalize (w.alloc gK).alloc gK=aK at H1 aA dl⊢;generalize bl:w.heap.size=A at H1 dl⊢;have X:V (w.heap.size=A):=bl;clear bl;by_cases cp:2+2*1<=n
 ·have bi:V _:=jy aK a n c 2 1 bs (dl.o.ys ao.o) cp hn;go_wp2_with fail;refine yaj bi.o ?_;rintro e ak ⟨a6,bk,rfl,ck,aC⟩;obtain⟨a2,rfl,cw,hv,e5⟩:=mO ck xab;have c2:=e5 0 xab;rw[Ci]at c2;obtain⟨gE,hD⟩:=xZ ao.o 2;obtain⟨m,gP⟩:∃m,m=(fe bs 2 2).toNat:=⟨_,rfl⟩
  rw[<-gP]at gE hD;rw[gE]at c2;have d:V (m=n1L bs):=gP;have H2:V _:=H1.o.keep aC;have ap:aK.heap.size<=a2:=cw;have cG:V (A+1+1<=a2/\a2<ak.heap.size):=⟨i4 H1.o.bz,hv⟩
  clear ck aC cw hv e5 bi gE gP H1 ap;have e1:V _:=(H2.o.yl dl.o xaa xaa).ys ao.o;by_cases aD:4+2*m<=n
  ·have bi:V _:=jy ak a n c 4 m bs e1.o aD hn;go_wp2_with fail;refine yaj bi.o ?_;rintro e aM ⟨U,ab,rfl,(ea:V _),a9⟩;have H3:V _:=H2.o.keep a9;have c3:aM.cell? ⟨a2,0,none⟩=some (ih m):=by rw[a9.cell (p:=⟨a2,0,none⟩) cG.o.2 xaa];exact c2
   have fl:V (A+1+1<=a2/\a2<aM.heap.size/\A+1+1<=ak.heap.size):=⟨cG.o.1,jj a9.size cG.o,H2.o.bz⟩
   clear a9 bi c2 cG e1 H2;obtain⟨_,aU,ax,aF,bv,bT,f1,f2,f3⟩:=H3.o.bc;have c4:(aM.setCell ⟨A+1,0,none⟩ (.slice U m ab)).cell? ⟨a2,0,none⟩=some (ih m):=by rw[eG _ _ _ _ _ _ (.inl (i4 fl.o))];exact c3
   have bA:V (LS (aM.setCell ⟨A+1,0,none⟩ (.slice U m ab)) aK A (A+1) (A+1+1) (.slice U m ab) (.slice none 0 0) (.slice none 0 0) 0 (jW bs) [] []):=by
    refine H3.o.put xaa xaa (H3.o.bc.put0 _) (OCd.setI ?_);have h:=gi ea.o fl.o.2.2;have e:jW bs=iP bs 4 m:=jL d.o
    rw[e,pK];exact h
   clear ea H3;go_upto_region 9 with fail;clear aU ax aF bv bT f1 f2 f3 c3;generalize aM.setCell ⟨A+1,0,none⟩ (.slice U m ab)=bx at c4 bA⊢;obtain⟨da,cx⟩:∃da,da=4+2*m:=⟨_,rfl⟩
   have eS:V (da=p1L bs):=by show _=_;rw[cx,d.o];rfl
   have et:(4:Int)+2*(m:Int)=da:=xaa;have hG:da<=n:=xaa;have h1:V (da=4+2*m):=cx;clear cx aD;have e2:V _:=(bA.o.yl dl.o xaa xaa).ys ao.o;by_cases cJ:da+2*1<=n
   ·have bi:V _:=jy bx a n c da 1 bs e2.o cJ hn;go_wp2_with fail;refine yaj bi.o ?_;rintro e bz ⟨ct,l,rfl,dg,a5⟩;obtain⟨bS,rfl,hw,hx,hc⟩:=mO dg xab;have c5:=hc 0 xab;rw[Ci]at c5;obtain⟨ew,hE⟩:=xZ ao.o da;obtain⟨c7,gR⟩:∃c7,c7=(fe bs da 2).toNat:=⟨_,rfl⟩
    rw[<-gR]at ew hE;rw[ew]at c5;have br:V (c7=n2L bs):=by show _=_;rw[gR,eS.o];rfl
    have c9:V _:=bA.o.keep a5;have fm:V (A+1+1<=bS/\bS<bz.heap.size):=⟨i4 bA.o.bz,hx⟩
    have co:V _:=c5;clear dg a5 hw hx hc bi ew gR bA c4 c5 e2 et;obtain⟨P2,cj⟩:∃P2,P2=da+2:=⟨_,rfl⟩
    have et:(da:Int)+2=(P2:Int):=xaa;have hI:P2<=n:=xaa;have ae:V (P2=p1L bs+2):=by show _=_;rw[cj,eS.o]
    clear cj cJ hG;go_wp2_with fail;clear et;go_loopw [7,10] (λx i W=>∃k:Nat,k<=c7/\i=ih k/\x=ih (gF bs P2 k:Nat)/\V (gF bs P2 k<=n)/\V (∃b cr af,LS W aK A (A+1) (A+1+1) (.slice U m ab) (.slice b k cr) (.slice none 0 0) 0 (jW bs) af []/\af.length=k/\af.map nk=(jV bs P2 k).map nk/\W.cell? ⟨bS,0,none⟩=some (ih c7)/\bS<W.heap.size/\∀g,(Value.slice b k cr).ownBlock=some g->g≠bS)) (λ_ i _=>c7-(intOf i).toNat)
    case atStart=>exact⟨0,yae,rfl,rfl,hI,none,0,[],c9.o,rfl,rfl,co.o,fm.o.2,λg az=>by simp[Value.ownBlock]at az⟩
    case round=>
     obtain⟨k,J,rfl,rfl,c8,b1⟩:=hrel;clear c9 co;obtain⟨bu,aG,af,(bM:V _),d8,d0,c5,gr,(el:V _)⟩:=b1.o;have R:V (af.length=k/\af.map nk=(jV bs P2 k).map nk):=⟨d8,d0⟩
     have bD:V (A+1+1<=bS/\bS<wr.heap.size):=⟨fm.o.1,gr⟩
     have co:V _:=c5;clear d8 d0 b1 gr;by_cases aY:k<c7
     ·obtain⟨q,am⟩:∃q,q=gF bs P2 k:=⟨_,rfl⟩
      rw[<-am]at c8⊢;have bQ:V _:=am;obtain⟨ax,(cO:V _)⟩:∃ax,ax=q+1:=⟨_,rfl⟩
      have d7:(q:Int)+1=(ax:Int):=(by have:=cO.o;omega);have fG:=c8.o;have eb:V _:=(bM.o.yl dl.o xaa xaa).ys ao.o;clear am;by_cases hg:ax+2*6<=n
      ·have bi:V _:=jy wr a n c ax 6 bs eb.o hg hn;have h6:q+13<=n:=by have:=cO.o;omega
       go_wp2_with fail;refine yaj bi.o ?_;rintro e ch ⟨b2,bV,rfl,gv,b6⟩;obtain⟨ed,rfl,hQ,hR,hd⟩:=mO gv xab
       have bN:V (∀j,j<6->ch.cell? ⟨ed,j,none⟩=some (ih (jP bs q j))):=λj hj=>by
        rw[hd j hj,q8 bs ax hj]
        unfold jP
        rw[cO.o]
       have cT:V _:=bM.o.keep b6;have f6:V (ch.cell? ⟨bS,0,none⟩=some (ih c7)):=by show _=_;rw[b6.cell (p:=⟨bS,0,none⟩) bD.o.2 xaa];exact co.o
       have gb:V (A+1+1<=bS/\bS<ch.heap.size):=⟨bD.o.1,yak bD.o.2 b6.size⟩
       clear gv b6 hQ hd bi bM co c5 bD eb;have fu:=cT.o.yl dl.o xaa xaa;rcases fu.at_ with z|⟨b4,an,rfl,_,bg,bq⟩
       ·omega
       have bX:=bq q xaa;have bP:=mf ao.o q;have bB:=bN.o 0 xab;have ad:=bN.o 1 xab;have be:=bN.o 2 xab;have ah:=bN.o 3 xab;have e4:=bN.o 4 xab;have cl:=bN.o 5 xab
       have aV:V (∀z:Nat,(fe bs q 1=1->fb z=fb (fe bs (q+13) 8).toNat)->(¬fe bs q 1=1->z=0)->nk ⟨bs.getD q 0,jP bs q 0,jP bs q 1,jP bs q 2,jP bs q 3,jP bs q 4,jP bs q 5,z⟩=nk (qF bs q)):=λz B N=>by
        unfold nk qF
        simp only
        rw[xR]
        rw[xR]at B N
        by_cases aH:bs.getD q 0=1
        ·rw[iv aH,B aH]
        ·rw[ip aH,N aH]
       have c6:V (fe bs q 1=bs.getD q 0):=xR bs q
       have di:V (gF bs P2 (k+1)=q+(if fe bs q 1=1 then 21 else 13)):=by
        show _=_;rw[gF,<-bQ.o];rfl
       rw[c6.o]at aV di;generalize bs.getD q 0=x at bX bP aV di;generalize jP bs q 0=bm at bB aV;generalize jP bs q 1=aW at ad aV;generalize jP bs q 2=bd at be aV;generalize jP bs q 3=cu at ah aV;generalize jP bs q 4=cD at e4 aV;generalize jP bs q 5=cC at cl aV;have hN:IntKind.i64.wrap x=x:=by rw[IntKind.wrap_i64];omega
       have ey:0<=(q:Int):=xaa;have eg:(q:Int)<n:=xaa;have cQ:V (b4<ch.heap.size/\∀k,k<n->ch.cell? ⟨b4,an+k,none⟩=some (.int .u8 (bs.getD k 0))):=⟨bg,bq⟩
       clear bg bq fu bN c6;go_wp2_with fail;go_region_held3 (λO=>O.cell? ⟨b4,an+q,none⟩=some (.int .u8 x)/\O.cell? ⟨ed,0,none⟩=some (ih bm)/\O.cell? ⟨ed,1,none⟩=some (ih aW)/\O.cell? ⟨ed,2,none⟩=some (ih bd)/\O.cell? ⟨ed,3,none⟩=some (ih cu)/\O.cell? ⟨ed,4,none⟩=some (ih cD)/\O.cell? ⟨ed,5,none⟩=some (ih cC)) (go_keep) (fail);clear bX bB ad be ah e4 cl hN ey eg d7;have b7:=(eA 0 0 ch (Ste.box ⟨x,bm,aW,bd,cu,cD,cC,0⟩)).trans (eD _);have eu:V (AtT ((ch.alloc (Ste.box ⟨x,bm,aW,bd,cu,cD,cC,0⟩)).drew) ch.heap.size 0 ⟨x,bm,aW,bd,cu,cD,cC,0⟩):=AtT.keep (ud ch ⟨x,bm,aW,bd,cu,cD,cC,0⟩) xac (eD _) yaa;have ga:V (∀o,((ch.alloc (Ste.box ⟨x,bm,aW,bd,cu,cD,cC,0⟩)).drew).frozen? ⟨ch.heap.size,o,none⟩=false):=λo=>by simp
       have b5:V _:=cT.o.keep b7;have ef:V (((ch.alloc (Ste.box ⟨x,bm,aW,bd,cu,cD,cC,0⟩)).drew).cell? ⟨bS,0,none⟩=some (ih c7)):=by show _=_;rw[b7.cell (p:=⟨bS,0,none⟩) gb.o.2 xaa];exact f6.o
       have cX:V (A+1+1<=bS/\bS<ch.heap.size/\ch.heap.size<((ch.alloc (Ste.box ⟨x,bm,aW,bd,cu,cD,cC,0⟩)).drew).heap.size):=⟨gb.o.1,gb.o.2,by show _<(ch.alloc _).heap.size;simp⟩
       have en:V (∀g,(Value.slice bu k aG).ownBlock=some g->g<ch.heap.size):=λg az=>(eF cT.o.oc.r2 az).2;have g8:V (∀g,(Value.slice U m ab).ownBlock=some g->g<ch.heap.size):=λg az=>(eF cT.o.oc.r1 az).2;have d5:V (∀k,k<n->((ch.alloc (Ste.box ⟨x,bm,aW,bd,cu,cD,cC,0⟩)).drew).cell? ⟨b4,an+k,none⟩=some (.int .u8 (bs.getD k 0))):=λk J=>by rw[b7.cell (p:=⟨b4,an+k,none⟩) cQ.o.1 xaa];exact cQ.o.2 k J
       clear b7 cT f6 gb hR cQ;generalize (ch.alloc (Ste.box ⟨x,bm,aW,bd,cu,cD,cC,0⟩)).drew=ci at eu ga b5 ef cX d5⊢;generalize ch.heap.size=S at eu ga cX en g8⊢;obtain⟨K,(gd:V _)⟩:∃K,K=q+13:=⟨_,rfl⟩
       have d7:(q:Int)+13=(K:Int):=(by have:=gd.o;omega);have h7:K<=n:=xaa;cases t:(x==1)
       ·have bG:¬x=1:=by simpa using t
        have cR:V _:=aV.o 0 (λh=>absurd h bG) (λ_=>rfl);have fq:V ((0:Nat)<18446744073709551616):=by show(0:Nat)<_;decide
        have gf:=eu;have f7:=ef;have bU:V (A+1+1<=bS/\bS<ci.heap.size):=⟨cX.o.1,i4 cX.o⟩
        have H:(if x=1 then 21 else 13)=13:=ip bG;have gB:V _:=H;have g5:=eu.o.c0;clear bG aV H;go_upto_region 34 with fail;clear g5 d7;obtain⟨st,bE⟩:∃st:Ste,st=⟨x,bm,aW,bd,cu,cD,cC,0⟩:=⟨_,rfl⟩
        have bO:V _:=bE;have fv:=gf.o;rw[<-bE]at fv;obtain⟨a8,aJ,aP,bw,b3,cf,cz,ce⟩:=fv;obtain⟨_,aU,ek,aF,bv,bT,f1,f2,f3⟩:=b5.o.bc;have ej:=b5.o.oc.r2;rw[R.o.1]at ej;have aI:V _:=ej;have gx:V (A+1+1<=ci.heap.size):=b5.o.bz;clear bE ej;go_wp2_with (first|(at_builtin;refine wpList_append_lies _ rfl _ _ 25 rfl (A+1+1) 43 bY Ste.zero.agg 8 64 underlying25 cU cg b8 cc rfl xab _ _ (gL af) rfl (eN aI.o (eA 0 0 ci _)) ⟨ci.heap.size,0,none⟩ 1 1 st.cells rfl rfl (rz ci st 0) (zL st) xab (by unfold maxLen;omega) xaa (by have:=gx.o;simp;omega) _ rfl ?_)|fail);intro g9 cap9 a7 aZ cV ep _;have bj:=eA 0 0 ci st.box;have aX:=fA cV;obtain⟨B,N,h3,bp⟩:=b5.o.grow xaa xaa (λg az=>(eF aI.o az).1) bj aX;obtain⟨_,hU,hV,hW,hX,a0,av,aT,G⟩:=N
        have d6:(Value.slice bu k aG).ownBlock=some g9\/ci.heap.size<=g9:=by
         rcases ep with h|h
         ·exact .inl h
         right;omega
        have fM:st.k<18446744073709551616:=jn bO.o fq.o
        have R1:V (LS (a7.setCell ⟨A+1,1,none⟩ (ia g9 (k+1) cap9)) aK A (A+1) (A+1+1) (.slice U m ab) (ia g9 (k+1) cap9) (.slice none 0 0) 0 (jW bs) (af++[st]) []):=b5.o.addS xaa xaa R.o.1 bj aZ cV d6 fM
        have R2:V ((af++[st]).length=k+1/\(af++[st]).map nk=(jV bs P2 (k+1)).map nk):=by
         exact xhm
        have R3:V ((a7.setCell ⟨A+1,1,none⟩ (ia g9 (k+1) cap9)).cell? ⟨bS,0,none⟩=some (ih c7)):=by
         exact xev
        have dp:V (bS<(a7.setCell ⟨A+1,1,none⟩ (ia g9 (k+1) cap9)).heap.size):=by
         exact yak bU.o.2 (yao bj.size (yao aX.size xac))
        have cB:V (∀g,(ia g9 (k+1) cap9).ownBlock=some g->g≠bS):=λg az=>by
         exact xic
        have fs:V (gF bs P2 (k+1)<=n/\gF bs P2 (k+1)=K):=by
         rw[di.o,gB.o];have:=gd.o;constructor<;>omega
        exact xdq
       have bG:x=1:=by simpa using t
       have g5:=eu.o.c0;by_cases hh:K+8<=n
       ·have e8:¬((n:Int)<K+8):=xaa;go_wp2_with fail;clear e8;go_loopw [14,15] (λd2 al W=>∃j:Nat,j<=8/\al=ih (7-(j:Int))/\d2=.int .u64 (fe bs (K+(8-j)) j)/\W=ci) (λ_ al _=>(intOf al+1).toNat)
        case atStart=>exact⟨0,yae,by simp,rfl,rfl⟩
        case round=>
         obtain⟨j,hj,rfl,rfl,rfl⟩:=hrel;by_cases er:j<8
         ·obtain⟨r,au⟩:∃r,r=K+(7-j):=⟨_,rfl⟩
          have bX:=d5.o r xaa;have hC:=mf ao.o r;have aL:=Lp ao.o (K+(8-j)) (show j<=7 by omega)
          have cM:V (fe bs (K+(8-(j+1))) (j+1)=bs.getD r 0+256*fe bs (K+(8-j)) j):=by
           show _=_;rw[uq,show K+(8-(j+1))=r by omega,show r+1=K+(8-j) by omega]
          generalize bs.getD r 0=y at bX hC cM;generalize fe bs (K+(8-j)) j=v at aL cM⊢;have hL:(K:Int)+(7-(j:Int))=(r:Int):=xaa;have h9:r<n:=xaa;have cy:(0:Int)<=7-(j:Int):=xaa;have HR:V _:=au;clear au;obtain⟨g3,g2⟩:∃g3:Int,g3=7-(j:Int):=⟨_,rfl⟩
          rw[<-g2]at hL cy⊢;have cW:g3<=7:=xaa;have hz:V _:=g2;clear g2;go_wp2_with fail;go_roundw;exact⟨j+1,by omega,by have:=hz.o;congr 1;omega,by rw[cM.o];congr 1;omega,trivial⟩;simp[intOf];omega
         obtain rfl:j=8:=xaa;have hM:=ki ao.o K 8;obtain⟨f5,e9⟩:∃f5:Nat,fe bs K 8=(f5:Int):=⟨(fe bs K 8).toNat,by omega⟩
         have cI:f5<18446744073709551616:=by
          have:(256:Int) ^ 8=18446744073709551616:=xab;omega
         have gg:V (f5=(fe bs (q+13) 8).toNat):=by show _=_;rw[<-gd.o,e9];rfl
         rw[show K+(8-8)=K from rfl,e9];have cH:(7:Int)-((8:Nat):Int)=-1:=xab;rw[cH];clear hM e9 cH d5;go_wp2_with fail;refine yaj (tv f5 _ cI) ?_;rintro e cA ⟨z,rfl,hq,hr,fP,rfl⟩;have d1:=eJ 0 0 wr fP;have bh:=AtT.keep eu.o cX.o.2.2 d1 yaa;have bK:∀o,(wr.drewN fP).frozen? ⟨S,o,none⟩=false:=λo=>by rw[d1.frozen (p:=⟨S,o,none⟩) cX.o.2.2 xaa];exact ga.o o
         have bI:=b5.o.keep d1;have gC:(wr.drewN fP).cell? ⟨bS,0,none⟩=some (ih c7):=by rw[d1.cell (p:=⟨bS,0,none⟩) (by have:=cX.o;show bS<_;omega) xaa];exact ef.o
         have b9:wr.heap.size<=(wr.drewN fP).heap.size:=d1.size;generalize wr.drewN fP=cA at bh bK bI gC b9⊢;have ag:=bh.c7;have gp:=bK 7;have gf:V (AtT (cA.setCell ⟨S,7,none⟩ (.float .f64 z)) S 0 ⟨x,bm,aW,bd,cu,cD,cC,z⟩):=AtT.put7 bh z;have d9:V _:=bI.setS (S:=S) xaa xaa (i4 cX.o) (λg az=>i4 (g8.o g az)) (λg az=>i4 (en.o g az)) (λg az=>by simp[Value.ownBlock]at az) 7 (.float .f64 z);have f7:V ((cA.setCell ⟨S,7,none⟩ (.float .f64 z)).cell? ⟨bS,0,none⟩=some (ih c7)):=by show _=_;rw[eG _ _ _ _ _ _ (.inl (i4 cX.o))];exact gC
         have bU:V (A+1+1<=bS/\bS<(cA.setCell ⟨S,7,none⟩ (.float .f64 z)).heap.size):=⟨cX.o.1,by have:=cX.o;simp;omega⟩
         have fq:V (z<18446744073709551616):=hr;have cR:V _:=aV.o z (λ_=>by rw[hq,gg.o]) (λh=>absurd bG h);have H:(if x=1 then 21 else 13)=21:=iv bG;have gB:V _:=H;obtain⟨f0,(hA:V _)⟩:∃f0,f0=K+8:=⟨_,rfl⟩
         have hK:(K:Int)+8=(f0:Int):=(by have:=hA.o;omega);have h8:f0<=n:=xaa;clear bh bK bI gC b9 eu ga b5 ef aV hq hr bG H gg d1 g5 d7;go_upto_region 34 with fail;clear ag gp hK;generalize cA.setCell ⟨S,7,none⟩ (.float .f64 z)=bW at gf d9 f7 bU⊢;obtain⟨st,bE⟩:∃st:Ste,st=⟨x,bm,aW,bd,cu,cD,cC,z⟩:=⟨_,rfl⟩
         have bO:V _:=bE;have fv:=gf.o;rw[<-bE]at fv;obtain⟨a8,aJ,aP,bw,b3,cf,cz,ce⟩:=fv;obtain⟨_,aU,ek,aF,bv,bT,f1,f2,f3⟩:=d9.o.bc;have ej:=d9.o.oc.r2;rw[R.o.1]at ej;have aI:V _:=ej;have gx:V (A+1+1<=bW.heap.size):=d9.o.bz;clear bE ej;go_wp2_with (first|(at_builtin;refine wpList_append_lies _ rfl _ _ 25 rfl (A+1+1) 43 bY Ste.zero.agg 8 64 underlying25 cU cg b8 cc rfl xab _ _ (gL af) rfl (eN aI.o (eA 0 0 bW _)) ⟨bW.heap.size,0,none⟩ 1 1 st.cells rfl rfl (rz bW st 0) (zL st) xab (by unfold maxLen;omega) xaa (by have:=gx.o;simp;omega) _ rfl ?_)|fail);intro g9 cap9 a7 aZ cV ep _;have bj:=eA 0 0 bW st.box;have aX:=fA cV;obtain⟨B,N,h3,bp⟩:=d9.o.grow xaa xaa (λg az=>(eF aI.o az).1) bj aX;obtain⟨_,hU,hV,hW,hX,a0,av,aT,G⟩:=N
         have d6:(Value.slice bu k aG).ownBlock=some g9\/bW.heap.size<=g9:=by
          rcases ep with h|h
          ·exact .inl h
          right;omega
         have fM:st.k<18446744073709551616:=jn bO.o fq.o
         have R1:V (LS (a7.setCell ⟨A+1,1,none⟩ (ia g9 (k+1) cap9)) aK A (A+1) (A+1+1) (.slice U m ab) (ia g9 (k+1) cap9) (.slice none 0 0) 0 (jW bs) (af++[st]) []):=d9.o.addS xaa xaa R.o.1 bj aZ cV d6 fM
         have R2:V ((af++[st]).length=k+1/\(af++[st]).map nk=(jV bs P2 (k+1)).map nk):=by
          exact xhm
         have R3:V ((a7.setCell ⟨A+1,1,none⟩ (ia g9 (k+1) cap9)).cell? ⟨bS,0,none⟩=some (ih c7)):=by
          exact xev
         have dp:V (bS<(a7.setCell ⟨A+1,1,none⟩ (ia g9 (k+1) cap9)).heap.size):=by
          exact yak bU.o.2 (yao bj.size (yao aX.size xac))
         have cB:V (∀g,(ia g9 (k+1) cap9).ownBlock=some g->g≠bS):=λg az=>by
          exact xic
         have fs:V (gF bs P2 (k+1)<=n/\gF bs P2 (k+1)=f0):=by
          rw[di.o,gB.o];have:=gd.o;have:=hA.o;constructor<;>omega
         exact xdq
       have e8:(n:Int)<K+8:=xaa;obtain⟨_,bo,ar,aQ,aN,aR,ca,a2,aB⟩:=b5.o.ba;obtain⟨_,aU,ax,aF,bv,_⟩:=b5.o.bc;have cK:V (Kept 0 0 w ci):=b5.o.kept aA.o (i4 X.o) (i4 X.o);have aw:V (lw bs=false):=PN (k:=k+1) (i4 br.o) (by rw[<-ae.o,di.o,iv bG,HL.o];have:=gd.o;omega);go_wp2_with fail;obtain⟨a8,aJ,aP,bw⟩:=iN ci A _ _ _ _ bo ar aQ aN (.slice U m ab) (.slice bu k aG) (.slice none 0 0) (ih 0);have aS:=fR ci A (.slice U m ab) (.slice bu k aG) (.slice none 0 0) (ih 0);exact xce
      have bi:V _:=jw wr a n c ax 6 hg (i4 cO.o) xaa;go_wp2_with fail;refine yaj bi.o ?_;rintro e ch ⟨rfl,rfl⟩;obtain⟨_,bo,ar,aQ,aN,aR,ca,a2,aB⟩:=bM.o.ba;obtain⟨_,aU,ax,aF,bv,_⟩:=bM.o.bc;have cK:V (Kept 0 0 w ch):=bM.o.kept aA.o (i4 X.o) (i4 X.o);have aw:V (lw bs=false):=PN (k:=k+1) (i4 br.o) (by rw[<-ae.o,HL.o,gF,<-bQ.o];have:=cO.o;unfold iY;split<;>omega);go_wp2_with fail;obtain⟨a8,aJ,aP,bw⟩:=iN ch A _ _ _ _ bo ar aQ aN (.slice U m ab) (.slice bu k aG) (.slice none 0 0) (ih 0);have aS:=fR ch A (.slice U m ab) (.slice bu k aG) (.slice none 0 0) (ih 0);exact xce
     obtain rfl:k=c7:=xaa;have aj:V (gF bs P2 k=p3L bs):=by show _=_;rw[ae.o,br.o];rfl
     obtain⟨db,ds⟩:∃db,db=gF bs P2 k:=⟨_,rfl⟩
     rw[<-ds]at aj c8⊢;have h5:=c8.o;clear ds;have eb:V _:=(bM.o.yl dl.o xaa xaa).ys ao.o;by_cases g1:db+2*1<=n
     ·have bi:V _:=jy wr a n c db 1 bs eb.o g1 hn;go_wp2_with fail;refine yaj bi.o ?_;rintro e cP ⟨h2,e6,rfl,gu,Y⟩;obtain⟨bJ,rfl,hO,hs,ha⟩:=mO gu xab;have P:=ha 0 xab;rw[Ci]at P;obtain⟨gT,hF⟩:=xZ ao.o db;obtain⟨ec,g0⟩:∃ec,ec=(fe bs db 2).toNat:=⟨_,rfl⟩
      rw[<-g0]at gT hF;rw[gT]at P;have bF:V (ec=n3L bs):=by show _=_;rw[g0,aj.o];rfl
      have fa:V _:=bM.o.keep Y;have g6:V (A+1+1<=bJ/\bJ<cP.heap.size):=⟨i4 bM.o.bz,hs⟩
      have d3:V _:=P;clear gu Y hO hs ha bi gT g0 P eb c5 co bD el;obtain⟨bZ,ex⟩:∃bZ,bZ=db+2:=⟨_,rfl⟩
      have et:(db:Int)+2=(bZ:Int):=xaa;have hJ:bZ<=n:=xaa;have cS:V (bZ=p3L bs+2):=by show _=_;rw[ex,aj.o]
      clear ex g1;go_wp2_with fail;clear et;go_loopw [7,16] (λx i W=>∃j:Nat,j<=ec/\i=ih j/\x=ih (bZ+4*j:Nat)/\V (bZ+4*j<=n)/\V (∃b cr,LS W aK A (A+1) (A+1+1) (.slice U m ab) (.slice bu k aG) (.slice b j cr) 0 (jW bs) af (i7 bs bZ j)/\W.cell? ⟨bJ,0,none⟩=some (ih ec)/\bJ<W.heap.size/\∀g,(Value.slice b j cr).ownBlock=some g->g≠bJ)) (λ_ i _=>ec-(intOf i).toNat)
      case atStart=>exact⟨0,yae,rfl,rfl,hJ,none,0,fa.o,d3.o,g6.o.2,λg az=>by simp[Value.ownBlock]at az⟩
      case round=>
       obtain⟨j,hj,rfl,rfl,hf,b1⟩:=hrel;clear fa d3 bM;obtain⟨cq,ai,ee,P,e7,fz⟩:=b1.o;have bM:V _:=ee;have el:V _:=fz;have bD:V (A+1+1<=bJ/\bJ<wr.heap.size):=⟨g6.o.1,e7⟩
       have d3:V _:=P;have gA:V ((i7 bs bZ j).length=j):=pJ _ _ _;obtain⟨q,am⟩:∃q,q=bZ+4*j:=⟨_,rfl⟩
       rw[<-am]at hf⊢;have bQ:V _:=am;have fG:=hf.o;have eb:V _:=(bM.o.yl dl.o xaa xaa).ys ao.o;clear ee fz b1 e7 am;by_cases aY:j<ec
       ·by_cases hk:q+2*2<=n
        ·have bi:V _:=jy wr a n c q 2 bs eb.o hk hn;go_wp2_with fail;refine yaj bi.o ?_;rintro e b0 ⟨hB,ev,rfl,eR,aa⟩;obtain⟨he,rfl,g4,hu,e3⟩:=mO eR xab;have bB:=e3 0 xab;have ad:=e3 1 xab;rw[q8 bs q xab]at bB ad;rw[show q+2*0=q from rfl]at bB;rw[show q+2*1=q+2 from rfl]at ad;have bH:V _:=bM.o.keep aa
         have d4:V (i7 bs bZ (j+1)=i7 bs bZ j++[⟨fe bs q 2,fe bs (q+2) 2⟩]):=by
          show _=_;rw[rD,<-bQ.o];rfl
         generalize fe bs q 2=x at bB d4;generalize fe bs (q+2) 2=y at ad d4;have gy:V (b0.cell? ⟨bJ,0,none⟩=some (ih ec)):=by show _=_;rw[aa.cell (p:=⟨bJ,0,none⟩) bD.o.2 xaa];exact d3.o
         have fj:V (A+1+1<=bJ/\bJ<b0.heap.size):=⟨bD.o.1,yak bD.o.2 aa.size⟩
         obtain⟨cF,(e0:V _)⟩:∃cF,cF=q+4:=⟨_,rfl⟩
         have d7:(q:Int)+4=(cF:Int):=(by have:=e0.o;omega);clear eR aa g4 e3 bi bM d3 bD P eb;obtain⟨_,aU,ax,aF,bv,bT,f1,f2,f3⟩:=bH.o.bc;have bL:=bH.o.oc.r3;rw[gA.o]at bL;have cn:V _:=bL;have eq:=bH.o.bz;generalize dd:i7 bs bZ j=hT at cn d4 bH gA;clear bL dd;go_wp2_with fail;go_region_law ((refine step_append_lies _ rfl (.tmp 166) (.tmp 174) 26 rfl (A+1+1) 56 cd Spn.zero.agg 2 16 underlying26 dv dc ez eP rfl xab _ _ (gZ hT) (by simp[Act.eval]) (kN cn.o 1 _) ⟨b0.heap.size,0,none⟩ 1 1 (Spn.cells ⟨x,y⟩) (by simp[Act.eval]) rfl (BZ b0 ⟨x,y⟩ 1) (Kz _) xab (by unfold maxLen;omega) xaa yag _ rfl ?_;intro g9 cap9 a7 aZ cV ep hS;obtain⟨m1,⟨_,a0,av,aT,G,hY,hZ,hy,h0⟩,m3,gs⟩:=bH.o.grow xaa xaa (λg az=>(eF cn.o az).1) ((eA 0 0 b0 (Spn.box ⟨x,y⟩)).trans (eJ 0 0 _ 1)) (fA cV)))
         all_goals
          have al:=(eA 0 0 b0 (Spn.box ⟨x,y⟩)).trans (eJ 0 0 _ 1)
          have aX:=fA cV
          have d6:(Value.slice cq j ai).ownBlock=some g9\/b0.heap.size<=g9:=by
           rcases ep with h|h
           ·exact .inl h
           ·right;rw[h];exact al.size
          have R1:V (LS (a7.setCell ⟨A+1,2,none⟩ (ia g9 (j+1) cap9)) aK A (A+1) (A+1+1) (.slice U m ab) (.slice bu k aG) (ia g9 (j+1) cap9) 0 (jW bs) af (i7 bs bZ (j+1))):=by
           rw[d4.o]
           exact bH.o.addP xaa xaa gA.o al aZ cV d6
          have R3:V ((a7.setCell ⟨A+1,2,none⟩ (ia g9 (j+1) cap9)).cell? ⟨bJ,0,none⟩=some (ih ec)):=by
           show _=_
           rw[eG _ _ _ _ _ _ (.inl (i4 fj.o))]
           exact(aX.cell (p:=⟨bJ,0,none⟩) (yak fj.o.2 al.size) (λe=>el.o bJ e rfl)).trans ((al.cell (p:=⟨bJ,0,none⟩) fj.o.2 xaa).trans gy.o)
          have dp:V (bJ<(a7.setCell ⟨A+1,2,none⟩ (ia g9 (j+1) cap9)).heap.size):=by
           exact yak fj.o.2 (yao al.size (yao aX.size xac))
          have cB:V (∀g,(ia g9 (j+1) cap9).ownBlock=some g->g≠bJ):=λg az=>by
           simp[Value.ownBlock]at az
           subst az
           rcases d6 with h|h
           ·exact el.o _ h
           ·have:=fj.o;omega
          clear aZ cV ep hS al aX d6 m1 m3 gs bB ad d7
          try clear a0 av aT G hY hZ hy h0
          go_wp2_with fail
          go_roundw;exact⟨j+1,by omega,by go_num,by have:=e0.o;have:=bQ.o;congr 1;omega,by have:=e0.o;have:=bQ.o;show _<=_;omega,some ⟨g9,0,none⟩,cap9,R1.o,R3.o,dp.o,cB.o⟩;simp[intOf];omega
        have bi:V _:=jw wr a n c q 2 hk xaa xaa;go_wp2_with fail;refine yaj bi.o ?_;rintro e b0 ⟨rfl,rfl⟩;obtain⟨_,bo,ar,aQ,aN,aR,ca,a2,aB⟩:=bM.o.ba;obtain⟨_,aU,ax,aF,bv,_⟩:=bM.o.bc;have cK:V (Kept 0 0 w b0):=bM.o.kept aA.o (i4 X.o) (i4 X.o);have aw:V (lw bs=false):=Qn (k:=j+1) (i4 bF.o) (by have:=cS.o;have:=bQ.o;have:=HL.o;omega);exact xck
       obtain rfl:j=ec:=xaa;have eT:V (q=p4L bs):=by show _=_;rw[bQ.o,cS.o,bF.o];rfl
       by_cases hl:q+2*1<=n
       ·have bi:V _:=jy wr a n c q 1 bs eb.o hl hn;go_wp2_with fail;refine yaj bi.o ?_;rintro e b0 ⟨hB,ev,rfl,eR,aa⟩;obtain⟨he,rfl,g4,hu,e3⟩:=mO eR xab;have bB:=e3 0 xab;rw[Ci]at bB;have bH:V _:=bM.o.keep aa;have bc:V (fe bs q 2=pkL bs):=by show _=_;rw[eT.o];rfl
        generalize fe bs q 2=ay at bB bc;obtain⟨_,aU,ax,aF,bv,bT,f1,f2,f3⟩:=bH.o.bc;have ff:V (LS (b0.setCell ⟨A+1,3,none⟩ (ih ay)) aK A (A+1) (A+1+1) (.slice U m ab) (.slice bu k aG) (.slice cq j ai) ay (jW bs) af (i7 bs bZ j)):=bH.o.put xaa xaa (bH.o.bc.put3 _) bH.o.oc;clear eR aa g4 hu e3 bi bM d3 bD P eb bH;go_upto_region 50 with fail;clear aU ax aF bv bT f1 f2 f3 bB;generalize b0.setCell ⟨A+1,3,none⟩ (ih ay)=gw at ff⊢;obtain⟨_,bo,ar,aQ,aN,aR,ca,h4,aB⟩:=ff.o.ba;obtain⟨_,aU,ax,aF,bv,_⟩:=ff.o.bc;have cK:V (Kept 0 0 w gw):=ff.o.kept aA.o (i4 X.o) (i4 X.o)
        have aw:V (lw bs=true):=by
         show _=_;exact decide_eq_true (jj eT.o HL.o)
        go_wp2_with fail;obtain⟨a8,aJ,aP,bw⟩:=iN gw A _ _ _ _ bo ar aQ aN (.slice U m ab) (.slice bu k aG) (.slice cq j ai) (ih ay);have aS:=fR gw A (.slice U m ab) (.slice bu k aG) (.slice cq j ai) (ih ay);refine yaz (v:=.tuple #[jh U m ab bu k aG cq j ai ay,.bool true]) (by simp[results,results16,go_sem,a8,aJ,aP,bw]) rfl ⟨λh=>?_,λ_=>⟨U,ab,bu,aG,cq,ai,af,?_,?_,?_⟩,cK.o.new aS (i4 X.o)⟩
        ·rw[aw.o]at h;cases h
        ·rw[<-d.o,<-br.o,<-bF.o,<-bc.o]
        ·rw[R.o.2,ae.o,br.o];rfl
        rw[<-d.o,<-br.o,<-bF.o];have e:osL bs=i7 bs bZ j:=by rw[cS.o,bF.o];rfl
        rw[e];exact(ff.o.oc.keepC (aS.chg1 (S:=λb=>b=A) rfl) (λg az _ e=>by omega)).mono (i4 X.o)
       have bi:V _:=jw wr a n c q 1 hl xaa xaa;go_wp2_with fail;refine yaj bi.o ?_;rintro e b0 ⟨rfl,rfl⟩;obtain⟨_,bo,ar,aQ,aN,aR,ca,a2,aB⟩:=bM.o.ba;obtain⟨_,aU,ax,aF,bv,_⟩:=bM.o.bc;have cK:V (Kept 0 0 w b0):=bM.o.kept aA.o (i4 X.o) (i4 X.o);have aw:V (lw bs=false):=pO (jj eT.o HL.o);exact xck
     have bi:V _:=jw wr a n c db 1 g1 xaa xaa;go_wp2_with fail;refine yaj bi.o ?_;rintro e cP ⟨rfl,rfl⟩;obtain⟨_,bo,ar,aQ,aN,aR,ca,a2,aB⟩:=bM.o.ba;obtain⟨_,aU,ax,aF,bv,_⟩:=bM.o.bc;have cK:V (Kept 0 0 w cP):=bM.o.kept aA.o (i4 X.o) (i4 X.o);have aw:V (lw bs=false):=Qm (jj aj.o HL.o);go_wp2_with fail;obtain⟨a8,aJ,aP,bw⟩:=iN cP A _ _ _ _ bo ar aQ aN (.slice U m ab) (.slice bu k aG) (.slice none 0 0) (ih 0);have aS:=fR cP A (.slice U m ab) (.slice bu k aG) (.slice none 0 0) (ih 0);exact xce
   have bi:V _:=jw bx a n c da 1 cJ xaa xaa;go_wp2_with fail;refine yaj bi.o ?_;rintro e bz ⟨rfl,rfl⟩;obtain⟨_,bo,ar,aQ,aN,aR,ca,a2,aB⟩:=bA.o.ba;obtain⟨_,aU,ax,aF,bv,_⟩:=bA.o.bc;have cK:V (Kept 0 0 w bz):=bA.o.kept aA.o (i4 X.o) (i4 X.o);have aw:V (lw bs=false):=Ql (jj eS.o HL.o);go_wp2_with fail;obtain⟨a8,aJ,aP,bw⟩:=iN bz A _ _ _ _ bo ar aQ aN (.slice U m ab) (.slice none 0 0) (.slice none 0 0) (ih 0);have aS:=fR bz A (.slice U m ab) (.slice none 0 0) (.slice none 0 0) (ih 0);refine yaz (v:=.tuple #[.agg #[(.slice U m ab),(.slice none 0 0),(.slice none 0 0),ih 0],.bool false]) (by simp[results,results16,go_sem,a8,aJ,aP,bw]) rfl ⟨λ_=>⟨_,_,_,_,_,_,_,_,_,_,rfl⟩,λh=>?_,cK.o.new aS (i4 X.o)⟩;rw[aw.o]at h;cases h
  have bi:V _:=jw ak a n c 4 m aD xaa xaa;go_wp2_with fail;refine yaj bi.o ?_;rintro e aM ⟨rfl,rfl⟩;obtain⟨_,aU,ax,aF,bv,bT,f1,f2,f3⟩:=H2.o.bc;have c4:(aM.setCell ⟨A+1,0,none⟩ (.slice none 0 0)).cell? ⟨a2,0,none⟩=some (ih m):=by rw[eG _ _ _ _ _ _ (.inl (i4 cG.o))];exact c2
  have bA:V (LS (aM.setCell ⟨A+1,0,none⟩ (.slice none 0 0)) aK A (A+1) (A+1+1) (.slice none 0 0) (.slice none 0 0) (.slice none 0 0) 0 [] [] []):=H2.o.put xaa xaa (H2.o.bc.put0 _) (OCd.setI (yaw _ _ _ _));go_upto_region 9 with fail;clear aU ax aF bv bT f1 f2 f3 c2 H2 e1 bi;generalize aM.setCell ⟨A+1,0,none⟩ (.slice none 0 0)=bx at c4 bA⊢;obtain⟨_,bo,ar,aQ,aN,aR,ca,a2,aB⟩:=bA.o.ba;obtain⟨_,aU,ax,aF,bv,_⟩:=bA.o.bc;have cK:V (Kept 0 0 w bx):=bA.o.kept aA.o (i4 X.o) (i4 X.o);have aw:V (lw bs=false):=Qk (by have:=d.o;have:=HL.o;unfold p1L;omega);go_wp2_with fail;obtain⟨a8,aJ,aP,bw⟩:=iN bx A _ _ _ _ bo ar aQ aN (.slice none 0 0) (.slice none 0 0) (.slice none 0 0) (ih 0);have aS:=fR bx A (.slice none 0 0) (.slice none 0 0) (.slice none 0 0) (ih 0);exact xdu
 have bi:V _:=jw aK a n c 2 1 cp xaa xaa;go_wp2_with fail;refine yaj bi.o ?_;rintro e ak ⟨rfl,rfl⟩;obtain⟨_,bo,ar,aQ,aN,aR,ca,a2,aB⟩:=H1.o.ba;obtain⟨_,aU,ax,aF,bv,_⟩:=H1.o.bc;have cK:V (Kept 0 0 w ak):=H1.o.kept aA.o (i4 X.o) (i4 X.o);have aw:V (lw bs=false):=Qj (i4 HL.o);go_wp2_with fail;obtain⟨a8,aJ,aP,bw⟩:=iN ak A _ _ _ _ bo ar aQ aN (.slice none 0 0) (.slice none 0 0) (.slice none 0 0) (ih 0);have aS:=fR ak A (.slice none 0 0) (.slice none 0 0) (.slice none 0 0) (ih 0);exact xdu
theorem It:fb 9221120237041090560=9221120237041090560:=by
 have:=Ak (s:=false) (r:=9221120237041090560) xab xab;exact this
theorem PO(x):fb (fb x)=fb x:=by
 by_cases h:(FloatKind.f64.format.order x x !=some .eq)=true
 ·have e:fb x=9221120237041090560:=by unfold fb;rw[iv h]
  rw[e,It]
 have e:fb x=x:=by unfold fb;rw[ip h]
 rw[e,e]
theorem nk_zero:nk Ste.zero=Ste.zero:=by
 unfold nk Ste.zero;simp only;rw[fb_zero]
theorem x8(af:List Ste)(i):(af.map nk).getD i Ste.zero=nk (af.getD i Ste.zero):=by
 rw[yai,List.getElem?_map,yai];cases af[i]? with
 |none=>exact nk_zero.symm
 |some s=>rfl
theorem Iu(af n c):f8 (af.map nk) n c=f8 af n c:=by
 unfold f8;rw[<-List.map_take,List.any_map];rfl
theorem Cj(af n d an len):iX (af.map nk) n d an len=iX af n d an len:=by
 unfold iX;simp only[Iu]
theorem Lq(ins af d i):jG ins (af.map nk) d i=jG ins af d i:=by
 unfold jG;rw[x8];have ad:fN ins (nk (af.getD i Ste.zero))=fN ins (af.getD i Ste.zero):=rfl;have be:fg (nk (af.getD i Ste.zero))=fg (af.getD i Ste.zero):=rfl
 have ah:jF (af.map nk) i d (nk (af.getD i Ste.zero))=jF af i d (af.getD i Ste.zero):=by
  funext p;unfold jF;rw[Cj];rfl
 rw[ad,be,ah];rfl
theorem Iv(ins af ba ay):iJ ins (af.map nk) ba ay=iJ ins af ba ay:=by
 unfold iJ
 have e:∀l:List Nat,l.all (jG ins (af.map nk) ay)=l.all (jG ins af ay):=λl=>by
  congr 1
  funext i
  exact Lq ins af ay i
 have be:pe (af.map nk) ay=pe af ay:=by
  funext p;unfold pe;rw[Cj,List.length_map]
 rw[e,be,List.length_map]
theorem Af(h:af.map nk=aO.map nk):iJ ins af ba ay=iJ ins aO ba ay:=by rw[<-Iv ins af,h,Iv]
theorem Lr(s):lZ (nk s)=lZ s:=by
 unfold lZ;show[s.op]++(fx s).flatMap gm++(if s.op=1 then iA (fb (fb s.k)) 8 else[])=_;rw[PO]
theorem oW(h:af.map nk=aO.map nk):iQ ins af ba ay=iQ ins aO ba ay:=by
 have e:∀l:List Ste,l.flatMap lZ=(l.map nk).flatMap lZ:=λl=>by
  rw[List.flatMap_map]
  congr 1
  funext s
  exact(Lr s).symm
 have ag:af.length=aO.length:=by rw[<-List.length_map nk,h,List.length_map]
 unfold iQ;rw[e af,e aO,h,ag]
theorem Ls(S:lw bs=true)(h:af.map nk=(ssL bs).map nk):kI bs=(iJ (jW bs) af (osL bs) (pkL bs)&&(iQ (jW bs) af (osL bs) (pkL bs)==bs)):=by
 unfold kI ph;rw[S,Bool.true_and,Af h,oW h]
 have ag:4<=bs.length:=by
  have bp:=of_decide_eq_true S;have:=uh bs;unfold p4L at bp;unfold p1L at this;omega
 cases aL:iJ (jW bs) (ssL bs) (osL bs) (pkL bs)
 ·rw[ip xac,Bool.false_and];rw[beq_eq_false_iff_ne];intro e;rw[<-e]at ag;simp at ag
 rw[iv rfl,Bool.true_and]
theorem Iw(w a n c bs)(f:YS w a n bs)(hn:n<=1048576):
  Calls prog 5 #[.slice a n c] w λe O=>LDo w bs e O:=by
 have ao:V (Bts bs):=f.lt;have bj:=eA 0 0 w gK;have aV:V _:=OI (w.alloc gK) a n c bs (f.keep bj) hn;have bM:V _:=kz w;have bg:V _:=f;have HK:V _:=bj;have b9:V ((w.alloc gK).heap.size=w.heap.size+1):=by show _=_;simp
 clear f bj;go_enter func5,ntmps5;go_wp2_with fail;generalize w.alloc gK=aK at aV bM HK b9⊢;refine yaj aV.o ?_;rintro e ak ⟨z,t,aC⟩;have bA:V _:=bM.o.keep aC;have bN:V _:=HK.o.trans aC;cases S:lw bs
 ·obtain⟨a1,m1,aX,K,b6,bk,a3,m3,ab,ay,rfl⟩:=z S;have H:V (kI bs=false):=by show _=_;unfold kI;rw[S];rfl
  clear z t S aC aV bM HK;have y:=eA 0 0 ak (im a1 m1 aX K b6 bk a3 m3 ab ay);have G:V _:=bA.o.keep y;have cc:V _:=jt ak (.slice a1 m1 aX) (.slice K b6 bk) (.slice a3 m3 ab) (ih ay);have bZ:V _:=bN.o.trans y;clear y bA bN;go_upto_region 2 with fail;generalize ak.alloc (im a1 m1 aX K b6 bk a3 m3 ab ay)=aM at G cc bZ⊢;first|(go_region_with (fail))|fail
  all_goals
   have j:V _:=G.o.keep (eD aM)
   have b0:V _:=bZ.o.trans (eD aM)
   clear G bZ cc
   generalize aM.drew=bx at j b0⊢
   obtain⟨_,bo,ar,aQ,aN,aR,ca,a2,aB⟩:=j.o
   go_wp2_with fail
   obtain⟨a8,aJ,aP,bw⟩:=iN bx w.heap.size _ _ _ _ bo ar aQ aN (.slice none 0 0) (.slice none 0 0) (.slice none 0 0) (ih 0)
   have aS:=fR bx w.heap.size (.slice none 0 0) (.slice none 0 0) (.slice none 0 0) (ih 0)
   refine yaz (v:=.tuple #[cnl,ih 1]) (by simp[results,results5,go_sem,a8,aJ,aP,bw]) rfl ⟨λ_=>rfl,λh=>?_,b0.o.new aS xaa⟩
   rw[H.o]at h;cases h
 obtain⟨a1,aX,K,bk,a3,ab,af,rfl,r,b8⟩:=t S;have U:V _:=Ls S r;have dl:V _:=r;have cp:(jW bs).length=n1L bs:=pK _ _ _;have cw:af.length=n2L bs:=by rw[<-List.length_map nk,r,List.length_map];exact uf _ _ _
 have cJ:(osL bs).length=n3L bs:=pJ _ _ _;obtain⟨m1,cH⟩:∃m,m=n1L bs:=⟨_,rfl⟩
 obtain⟨b6,bq⟩:∃m,m=n2L bs:=⟨_,rfl⟩
 obtain⟨m3,Y⟩:∃m,m=n3L bs:=⟨_,rfl⟩
 obtain⟨ay,cS⟩:∃p,p=pkL bs:=⟨_,rfl⟩
 rw[<-cH,<-bq,<-Y]at b8;rw[<-cH]at cp;rw[<-bq]at cw;rw[<-Y]at cJ;rw[<-cS]at U;rw[<-cH,<-bq,<-Y,<-cS];have X:V (m1=n1L bs/\b6=n2L bs/\m3=n3L bs/\ay=pkL bs):=⟨cH,bq,Y,cS⟩
 have y:=eA 0 0 ak (im a1 m1 aX K b6 bk a3 m3 ab ay);have G:V _:=bA.o.keep y;have cc:V _:=jt ak (.slice a1 m1 aX) (.slice K b6 bk) (.slice a3 m3 ab) (ih ay);have bZ:V _:=bN.o.trans y;have ea:V _:=b8.keep y;have l:V _:=(b8.keep y).cs cp cw cJ;have b4:V (w.heap.size<aK.heap.size/\aK.heap.size<=ak.heap.size):=⟨i4 b9.o,aC.size⟩
 clear z t S aC aV bM HK y bA bN b8 r cp cw cJ cH bq Y cS;go_upto_region 2 with fail;generalize ak.alloc (im a1 m1 aX K b6 bk a3 m3 ab ay)=aM at G cc bZ ea l⊢;generalize ak.heap.size=C at cc b4⊢;have b2:V (∀W,Kept 0 0 aM W->_):=λW k=>KS W a1 K a3 m1 aX b6 bk m3 ab ay (jW bs) af (osL bs) (l.o.keep k);cases d:iJ (jW bs) af (osL bs) ay
 ·have H:V (kI bs=false):=by show _=_;rw[U.o,d];rfl
  rw[d]at b2;clear d U;obtain⟨_,aU,ax,aF,bv⟩:=cc.o;first|(go_region_with (first|(go_at_call 17;refine yaj (b2.o _ (eD aM)) ?_;rintro e bx ⟨rfl,bS⟩)))|fail
  all_goals
   have j:V _:=G.o.keep ((eD aM).trans bS)
   have b0:V _:=bZ.o.trans ((eD aM).trans bS)
   clear G bZ cc aU ax aF bv bS
   obtain⟨_,bo,ar,aQ,aN,aR,ca,a2,aB⟩:=j.o
   go_wp2_with fail
   obtain⟨a8,aJ,aP,bw⟩:=iN bx w.heap.size _ _ _ _ bo ar aQ aN (.slice none 0 0) (.slice none 0 0) (.slice none 0 0) (ih 0)
   have aS:=fR bx w.heap.size (.slice none 0 0) (.slice none 0 0) (.slice none 0 0) (ih 0)
   refine yaz (v:=.tuple #[cnl,ih 1]) (by simp[results,results5,go_sem,a8,aJ,aP,bw]) rfl ⟨λ_=>rfl,λh=>?_,b0.o.new aS xaa⟩
   rw[H.o]at h;cases h
 have bc:=xN d;have HSV:V (∀W,Kept 0 0 aM W->_):=λW k=>Be W a1 K a3 m1 aX b6 bk m3 ab ay (jW bs) af (osL bs) (l.o.keep k) bc;have R:V _:=sw bc;rw[d,Bool.true_and]at U;rw[d]at b2;have a6:(iQ (jW bs) af (osL bs) ay).length=(iQ (jW bs) af (osL bs) ay).length:=rfl;generalize iQ (jW bs) af (osL bs) ay=sb at HSV R U;have q:V _:=Cg (xs:=sb) (ys:=bs) R.o ao.o;have aY:V (∀W,Kept 0 0 aM W->(convert 22 9 (.slice a n c)).run prog W=.ok (.string (strOfNums bs)) W):=λW k=>Ch (bg.o.keep (bZ.o.trans k));clear d bc a6;obtain⟨_,aU,ax,aF,bv⟩:=cc.o;first|(go_region_with (first|(go_at_call 17;refine yaj (b2.o _ (eD aM)) ?_;rintro e bx ⟨rfl,bS⟩;have d0:=aY.o bx ((eD aM).trans bS);obtain⟨_,bG,bn,p2,bb⟩:=cc.o.keep ((eD aM).trans bS))|(go_at_call 13;refine yaj (HSV.o bx ((eD aM).trans bS)) ?_;rintro e bz ⟨au,rfl,ct,a5⟩;obtain⟨N,cf,f6,rfl,x,_⟩:=ct.yz;have d1:=Ch (c:=f6) (x.ys R.o);have B:=aY.o bz (((eD aM).trans bS).trans a5))))|fail
 all_goals
  have al:=((eD aM).trans bS).trans a5
  have ae:V _:=G.o.keep al
  have bm:V _:=bZ.o.trans al
  have co:V _:=cc.o.keep al
  have ag:V _:=ea.o.keep al
  clear al bS a5 ct x d0 d1 B aU ax aF bv bG bn p2 bb G bZ cc ea b2 HSV aY l
  obtain⟨_,bo,ar,aQ,aN,aR,ca,a2,aB⟩:=ae.o
  obtain⟨_,aU,ax,aF,bv⟩:=co.o
  generalize sb.length=P
  cases am:(sb==bs)
  ·have H:V (kI bs=false):=by show _=_;rw[U.o,am]
   have aw:=q.o
   rw[am]at aw
   have cb:(!((strOfNums sb).toList==(strOfNums bs).toList))=true:=jL aw
   clear am U q
   generalize strOfNums sb=J at aw cb⊢
   generalize strOfNums bs=aW at aw cb⊢
   go_wp2_with fail
   all_goals first
    |(exfalso;rename_i aH;rw[cb]at aH;cases aH;done)
    |(obtain⟨a8,aJ,aP,bw⟩:=iN bz w.heap.size _ _ _ _ bo ar aQ aN (.slice none 0 0) (.slice none 0 0) (.slice none 0 0) (ih 0)
      have aS:=fR bz w.heap.size (.slice none 0 0) (.slice none 0 0) (.slice none 0 0) (ih 0)
      refine yaz (v:=.tuple #[cnl,ih 1]) (by simp[results,results5,go_sem,a8,aJ,aP,bw]) rfl ⟨λ_=>rfl,λh=>?_,bm.o.new aS xaa⟩
      rw[H.o]at h;cases h)
  ·have H:V (kI bs=true):=by show _=_;rw[U.o,am]
   have aw:=q.o
   rw[am]at aw
   have cb:(!((strOfNums sb).toList==(strOfNums bs).toList))=false:=jL aw
   clear am U q
   generalize strOfNums sb=J at aw cb⊢
   generalize strOfNums bs=aW at aw cb⊢
   go_wp2_with fail
   all_goals first
    |(exfalso;rename_i aH;rw[cb]at aH;cases aH;done)
    |(obtain⟨a8,aJ,aP,bw⟩:=iN bz w.heap.size _ _ _ _ bo ar aQ aN (.slice a1 m1 aX) (.slice K b6 bk) (.slice a3 m3 ab) (ih ay)
      have aS:=fR bz w.heap.size (.slice a1 m1 aX) (.slice K b6 bk) (.slice a3 m3 ab) (ih ay)
      refine yaz (v:=.tuple #[jh a1 m1 aX K b6 bk a3 m3 ab ay,ih 0]) (by simp[results,results5,go_sem,a8,aJ,aP,bw]) rfl ⟨λh=>?_,λ_=>⟨a1,aX,K,bk,a3,ab,af,?_,dl.o,?_⟩,bm.o.new aS xaa⟩
      ·rw[H.o]at h;cases h
      ·rw[<-X.o.1,<-X.o.2.1,<-X.o.2.2.1,<-X.o.2.2.2]
      ·rw[<-X.o.1,<-X.o.2.1,<-X.o.2.2.1]
       exact(ag.o.keepC (aS.chg1 (S:=λb=>b=w.heap.size) rfl) (λg az _ e=>i4 b4.o)).mono (i4 b4.o))
