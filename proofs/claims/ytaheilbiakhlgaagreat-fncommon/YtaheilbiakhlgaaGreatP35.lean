import Derived.Test.YtaheilbiakhlgaaGreatP34
namespace Go.Proofs.Z
variable{Zp:Prop}
open Tryz
set_option maxRecDepth 1000000
set_option maxHeartbeats 0
section
open Go.RowKit Flt Ieee
variable{x:List UInt8}
theorem Km(s f e):∃r,double.nearest s f e=W s r/\r<=9218868437227405312:=by
 unfold Ieee.Format.nearest;by_cases h:f=0
 ·rw[hI h,oN];grind
 rw[hG h];simp only[oN,sA];exact⟨_,rfl,Nat.min_le_right _ _⟩
theorem zo(neg n e):Ieee.Toward.cut .even neg n e<=n+1:=by
 unfold Ieee.Toward.cut;simp only;exact Nat.add_le_add (Nat.div_le_self _ _) (Bool.toNat_le _)
theorem tL(f)(h:f<=10000000000000000):∃r,double.nearest false f 0=W false r/\r<9218868437227405312/\(0<f->0<r):=by
 unfold Ieee.Format.nearest;by_cases ai:f=0
 ·rw[hI ai,oN];grind
 rw[hG ai];simp only[oN,sA,oM,pX,vJ]
 have bQ:f.log2<=53:=by
  have:=(Nat.log2_lt ai).2 (show f<2 ^ 54 by omega);omega
 have aw:f<2 ^ (f.log2+1):=Nat.lt_log2_self;generalize f.log2=L at*;have ah:max ((0:Int)+L-(52:Nat)) (-1074)=L-52:=xaa;rw[ah]
 have hn:f<<<(0-((L:Int)-52)).toNat<=10000000000000000:=by
  rw[Nat.shiftLeft_eq];by_cases c:L<=52
  ·have e:(0-((L:Int)-52)).toNat=52-L:=xaa;rw[e];have B:f*2 ^ (52-L)<=2 ^ (L+1)*2 ^ (52-L):=Nat.mul_le_mul_right _ (Nat.le_of_lt aw);rw[<-Nat.pow_add,show L+1+(52-L)=53 by omega]at B;omega
  grind
 have O:=zo false (f<<<(0-((L:Int)-52)).toNat) ((L:Int)-52-0).toNat;generalize Ieee.Toward.cut _ _ _ _=K at*;have hi:((L:Int)-52- -1074).toNat=L+1022:=xaa;rw[hi];refine⟨_,rfl,?_,λ_=>?_⟩<;>omega
theorem GQ{s r}(h:r<=9218868437227405312):(double.read (W s r)).isNaN=false:=by
 rcases Nat.lt_or_eq_of_le h with h|rfl
 ·rw[i9 h];rfl
 rw[nU];rfl
theorem Kn{n d}(ai:0<=n)(B:n<=10000000000000000)(U:1<=d)(h3:d<=10000000000000000):(f64.read (cop .quo (floatOfInt .f64 n) (floatOfInt .f64 d))).isNaN=false:=by
 obtain⟨r,af,av,_⟩:=tL n.natAbs xaa;obtain⟨q,a0,ao,a7⟩:=tL d.natAbs xaa
 have f1:floatOfInt .f64 n=W false r:=by
  rw[<-af];show double.nearest (decide (n<0)) n.natAbs 0=_;grind
 have f2:floatOfInt .f64 d=W false q:=by
  rw[<-a0];show double.nearest (decide (d<0)) d.natAbs 0=_;grind
 rw[f1,f2];have C:=Li (a7 xaa);have e:floatBits .quo .f64 _ _=((double.read (W false r)).quotient (double.fractionBits+2) (double.read (W false q))).map double.write:=rfl;unfold cop;rw[e,i9 av,i9 ao];simp only[Ieee.Datum.quotient,hG (show ¬M q=0 by omega),Option.map_some,Option.getD_some,Ieee.Format.write];obtain⟨z,aj,bz⟩:=Km (false ^^ false) (2*((M r<<<(double.fractionBits+2+(M q).log2-(M r).log2))/M q)+((M r<<<(double.fractionBits+2+(M q).log2-(M r).log2))%M q !=0).toNat) (-1074+(E r:Nat)-(-1074+(E q:Nat))-(double.fractionBits+2+(M q).log2-(M r).log2:Nat)-1);rw[aj];exact GQ bz
theorem Ko(h:kN x):(f64.read (oz x)).isNaN=false:=by
 obtain⟨⟨p,aF⟩,G⟩:=h;obtain⟨B,U,h3,a6⟩:=uK _ aF.digit _ yad (aF.short G);rw[yao yad]at B U h3 a6;exact Kn B U h3 a6
theorem rz(h:kN x){f c}(k:RN (il x) f c):f=oz x/\c=0:=by
 rcases k with⟨B,_⟩|⟨_,U,_⟩|⟨_,_,_,a6,bK⟩
 ·exact absurd h.1 B
 ·have:=h.2;omega
 refine⟨?_,bK⟩;rcases mS a6 with e|⟨_,e⟩<;>grind[Ko,oz]
end
section
open Go.RowKit Flt
theorem nf(w e s):Kept 0 0 w (Lib.bytesWorld w e s):=
 ⟨rfl,rfl,rfl,hT Lib.bytesWorld_size,λk O _=>Lib.bytesWorld_at_old w e s k O⟩
theorem qL(w e t):YS (Lib.bytesWorld w e ⟨t.toArray⟩) (some ⟨w.heap.size,0,none⟩) t.length (il t) where
 len:=by unfold il;rw[List.length_map]
 lt:=λx ap=>by
  unfold il at ap
  obtain⟨b,_,rfl⟩:=List.mem_map.1 ap
  have:=b.toNat_lt
  omega
 at_:=.inr ⟨w.heap.size,0,rfl,hT Lib.bytesWorld_size,λk O=>by
  rw[Nat.zero_add,Lib.bytesWorld_cell w e ⟨t.toArray⟩ k O,rl t k O]
  rfl⟩
theorem su{x}(h:kN x):x.length<=16:=by
 obtain⟨⟨p,aF⟩,G⟩:=h;have:=aF.short G;unfold il at this;rwa [List.length_map]at this
theorem BX(x):oz x<18446744073709551616:=oD _ _ _
end
section
open Go.RowKit Flt
attribute[local go_sem] eF eE eD
variable{P I bn cL bz aB b0 q o b2 c0:Nat}{u1 u2 u3 u4:Value}{bs:List Bc}{st:LSt}{bC:Option Addr}
def vr(op:Int)(one:Bool)(p:Nat)(r:Rs (LSt×Nat)):Rs (LSt×Nat):=match r with|.error f=>.error f|.ok (s,a)=>gh s (eK op (if one then 1 else fe s a) (a:Int) 0 0) p
theorem cE.qck(h:Zp:=by
 have ak:V (∀W',Kept 0 0 ag W'->Calls prog 106 #[hD P,(eK 13 (fe s a) (a:Int) 0 0).agg,hF K] W' λe aA=>(∃x:Int,e=.returned (hF x))/\V (TrO W P I u1 u2 u3 u4 bs r e aA)):=λW' al=>yai (ms (v.keep al) w.g (eK 13 (fe s a) (a:Int) 0 0) (w.g.lenB F) yag K) (λe aA t=>⟨t.ret,by
  show TrO W P I u1 u2 u3 u4 bs r e aA
  rw[HR.o]
  exact TrO.back HK.o (TrO.after (ar.keep al) t)⟩)
 exact qge):Zp:=h
theorem cE.qgf(h:Zp:=by
 go_upto_region 11 with fail;exact xep):Zp:=h
open cE in
theorem Du{W}(h:WS W P I u1 u2 u3 u4 bs st)(K S)(cx:1<=aB)(au:bz<W.heap.size)(aU:W.cell? ⟨bz,0,none⟩=some (.slice (some ⟨q,o,none⟩) b2 c0))(az)(bl:RsG st az)
  (bg:∀W',Kept 0 0 W W'->Calls prog 103 #[hD P,.slice bC bn cL,.slice (some ⟨q,o,none⟩) b2 c0] W' (TrO W' P I u1 u2 u3 u4 bs az)):
  Calls prog 143 #[hD P,.slice bC bn cL,i7 ⟨[101,120,112],K,S⟩,hE bz aB b0] W (TrO W P I u1 u2 u3 u4 bs (vr 13 false K az)):=by
 have aH:V _:=im W [101,120,112] K S;have HK:V _:=ez 0 0 W (.cells #[eO [101,120,112],hF K,eO S] 89);have aL:V _:=h.far;have aW:=(HK.o.cell (p:=⟨bz,0,none⟩) au xaa).trans aU;have Q:V _:=bg;have bk:V _:=bl;obtain⟨r,av⟩:∃r,r=vr 13 false K az:=⟨_,rfl⟩
 rw[<-av];have HR:V _:=av;clear av h bl bg aU;unfold i7;simp only;go_enter func143,ntmps143;go_upto_region 2 with fail;change Code.wp _ _ _ _ (W.alloc (.cells #[eO [101,120,112],hF K,eO S] 89));generalize W.alloc (.cells #[eO [101,120,112],hF K,eO S] 89)=ay at aH HK aW⊢;generalize W.heap.size=bI at aH aL⊢;have am:V _:=Q.o ay HK.o;have a9:=aH.o.c0;clear Q;rcases az with⟨c,p⟩|⟨s,a⟩
 ·exact xfb
 exact qcj
theorem cF.qck(h:Zp:=by
 have ak:V (∀W',Kept 0 0 _ W'->Calls _ _ _ _ λe aA=>(∃x:Int,e=.returned _)/\V (TrO W P I _ _ _ _ _ r e _)):=λW' al=>yai (ms (v.keep al) w.g (eK 9 1 _ 0 0) ⟨by show(1:Int)<=1;decide,by show(1:Int)<=1000;decide⟩ yag _) (λe aA t=>⟨t.ret,by
  show TrO W P I u1 u2 u3 u4 bs r e aA
  rw[HR.o]
  exact TrO.back HK.o (TrO.after (ar.keep al) t)⟩)
 exact qge):Zp:=h
theorem cF.qgf(h:Zp:=by
 go_upto_region 13 with fail
 go_region_with (first
  |(go_at_call 39;refine yai (gS _ _ _ _ _ _) ?_;rintro e a8 ⟨rfl,aJ⟩;have G:=(y.o.keep ((eG _).trans aJ)).c1)
  |(go_at_call 106;refine yai (ak.o _ ((eG _).trans aJ)) ?_;rintro e bj ⟨⟨x,rfl⟩,bh⟩))
 all_goals (go_wp2_with fail;go_ret;exact bh.o)):Zp:=h
open cF in
theorem Dv{W}(h:WS W P I u1 u2 u3 u4 bs st)(K S)(cx:1<=aB)(au:bz<W.heap.size)(aU:W.cell? ⟨bz,0,none⟩=some (.slice (some ⟨q,o,none⟩) b2 c0))(az)(bl:RsG st az)
  (bg:∀W',Kept 0 0 W W'->Calls prog 103 #[hD P,.slice bC bn cL,.slice (some ⟨q,o,none⟩) b2 c0] W' (TrO W' P I u1 u2 u3 u4 bs az)):
  Calls prog 143 #[hD P,.slice bC bn cL,i7 ⟨[115,117,109],K,S⟩,hE bz aB b0] W (TrO W P I u1 u2 u3 u4 bs (vr 9 true K az)):=by
 have aH:V _:=im W [115,117,109] K S;have HK:V _:=ez 0 0 W (.cells #[eO [115,117,109],hF K,eO S] 89);have aL:V _:=h.far;have aW:=(HK.o.cell au xaa).trans aU;have Q:V _:=bg;have bk:V _:=bl;obtain⟨r,av⟩:∃r,r=vr 9 true K az:=⟨_,rfl⟩
 rw[<-av];have HR:V _:=av;clear av h bl bg aU;unfold i7;simp only;go_enter func143,ntmps143;go_upto_region 2 with fail;change Code.wp _ _ _ _ (W.alloc (.cells _ 89));generalize W.alloc _=ay at aH HK aW⊢;generalize W.heap.size=bI at aH aL⊢;have am:V _:=Q.o _ HK.o;have a9:=aH.o.c0;clear Q;rcases az with⟨c,p⟩|⟨s,a⟩
 ·exact xfb
 exact qcj
def Kp(r1 r2:Rs (LSt×Nat)):Rs (LSt×Nat):=match r1 with|.error f=>.error f|.ok _=>r2
theorem tO{f}(fx:f=[102,105,108,108]\/f=[112,105,99,107]\/f=[112,117,116]){W}(h:WS W P I u1 u2 u3 u4 bs st)(K S)(cx:1<=aB)(au:bz<W.heap.size)(aU:W.cell? ⟨bz,0,none⟩=some (.slice (some ⟨q,o,none⟩) b2 c0))(az aZ)(bl:RsG st az)
  (bg:∀W',Kept 0 0 W W'->Calls prog 103 #[hD P,.slice bC bn cL,.slice (some ⟨q,o,none⟩) b2 c0] W' (TrO W' P I u1 u2 u3 u4 bs az))
  (cd:∀s a,az=.ok (s,a)->∀W' ba bc z aa,WS W' P I ba bc z aa bs s->Mv (Mst P u1 u2 u3 u4) W (Mst P ba bc z aa) W'->Calls prog 155 #[hD P,i7 ⟨f,K,S⟩,hF a,hE bz aB b0] W' (TrO W' P I ba bc z aa bs aZ)):
  Calls prog 143 #[hD P,.slice bC bn cL,i7 ⟨f,K,S⟩,hE bz aB b0] W (TrO W P I u1 u2 u3 u4 bs (Kp az aZ)):=by
 have aH:V _:=im W f K S;have HK:V _:=ez 0 0 W (.cells #[eO f,hF K,eO S] 89);have aL:V _:=h.far;have aW:=(HK.o.cell au xaa).trans aU;have Q:V _:=bg;have g:V _:=cd;have bk:V _:=bl;obtain⟨r,av⟩:∃r,r=Kp az aZ:=⟨_,rfl⟩
 rw[<-av];have HR:V _:=av;clear av h bl bg aU cd;unfold i7 at g⊢;simp only at g⊢;obtain⟨ay,C⟩:∃ay,V (W.alloc (.cells #[eO f,hF K,eO S] 89)=ay):=⟨_,rfl⟩
 rw[C.o]at aH HK aW;rcases fx with rfl|rfl|rfl
 all_goals
  go_enter func143,ntmps143
  go_upto_region 2 with fail
  change Code.wp _ _ _ _ (W.alloc (.cells _ 89))
  rw[C.o]
  clear C
  generalize W.heap.size=bI at aH aL⊢
  have am:V _:=Q.o _ HK.o
  have a9:=aH.o.c0
  clear Q
  rcases az with⟨c,p⟩|⟨s,a⟩
  ·go_wp2_with (go_at_call 103;refine yai am.o ?_;rintro e ag ⟨rfl,bh⟩)
   go_ret
   rw[HR.o]
   exact TrO.back HK.o ⟨rfl,bh⟩
  ·obtain⟨w,F⟩:=bk.o s a rfl
   have ef:¬((a:Int)<0):=xaa
   go_upto_region 7 with (go_at_call 103;refine yai am.o ?_;rintro e ag ⟨rfl,ba,bc,z,aa,v,ar⟩)
   have y:V _:=aH.o.keepC ar.chg aL.o
   obtain⟨bx,cv,a0,b9,bd⟩:=v.lenc F
   have bX:=v.c1
   have ae:V _:=(Mv.of HK.o).trans ar
   have i:V _:=g.o s a rfl _ _ _ _ _ v ae.o
   have u:V _:=yai i.o (λe aA t=>(⟨TrO.ret t,by
    show TrO W P I u1 u2 u3 u4 bs r e aA
    rw[HR.o]
    exact TrO.after ae.o t⟩:(∃x:Int,e=.returned _)/\V (TrO W P I _ _ _ _ _ r e _)))
   subst a0
   have bw:=y.o.c0
   have d1:=y.o.c1
   have d2:=y.o.c2
   have bB:=w.g.n
   generalize fe s a=l at bd
   generalize s.vs.length=bK at*
   clear v ar am aH HR bk w a9 aW g i ae
   go_wp2_with (go_at_call 155;refine yai u.o ?_;rintro e bj ⟨⟨x,rfl⟩,bh⟩)
   go_ret
   exact bh.o
theorem lj{W u g off m cap ts}(H:TrIn W P I u1 u2 u3 u4 bs st bC bn u g off m cap ts){e}(aF:Pr 0 [e] ts)(B:((ts.getD 0 hL).sym==[45])=false)(h3:((ts.getD 0 hL).sym==[105,110,116])=false)(a6:((ts.getD 0 hL).sym==[100,101,99])=false)(bK:((ts.getD 0 hL).sym==[40])=false)(bm:((ts.getD 0 hL).sym==[110,97,109,101])=false)(U:4<=m)(us)(aI:us=(ts.drop 2).take (m-1-2))(ca:(spQ us (m-3)).cur≠[])(r)
  (bg:∀W' aQ bA,Kept 0 0 W W'->SgR W' g W.heap.size aQ (gj us)->Calls prog 143 #[hD P,.slice bC bn cL,i7 (ts.getD 0 hL),.slice aQ (gj us).length bA] W' (TrO W' P I u1 u2 u3 u4 bs r)):
  Calls prog 103 #[hD P,.slice bC bn cL,.slice (some ⟨g,off,none⟩) m cap] W (TrO W P I u1 u2 u3 u4 bs r):=by
 have C:V _:=fZ W g _ m cap _ H.tk H.m5 [43] [45];have af:V _:=fZ W g _ m cap _ H.tk H.m5 [42] [47];rw[mI aF]at C af;have c0:=H.tk.c0 0 xaa;have c1:=H.tk.c1 0 xaa;have c2:=H.tk.c2 0 xaa;have bo:=H.m5;have aw:=H.mc
 have f:V (∀W',Kept 0 0 W W'->_):=λW' al=>BH _ g (off+6) _ (cap-2) _ (by
  have t:=(H.tk.keep al).in_ 2 _ _ aI xaa
  rw[show m-1-2=m-3 by omega]at t
  exact t) xaa xaa xaa ca
 have Q:V _:=bg;generalize ts.getD 0 _=t at*;clear H aF bg ca aI;obtain⟨aO,aT,bv⟩:=t;simp only at B h3 a6 bK bm;simp only[Nat.zero_mul,Nat.add_zero]at c0 c1 c2;go_enter func103,ntmps103;go_upto_region 3 with (go_at_call 137;refine yai C.o ?_;rintro e ag ⟨rfl,X⟩;obtain rfl:=X.symm);go_upto_region 15 with (go_at_call 137;refine yai af.o ?_;rintro e ag ⟨rfl,X⟩;obtain rfl:=X.symm);go_upto_region 16 with fail;change Code.wp _ _ _ _ (W.alloc (.cells #[eO _,.int _ aT,eO _] 89));have aH:V _:=im W aO aT bv;have HK:V _:=ez 0 0 W (.cells #[eO aO,hF aT,eO bv] 89);generalize W.alloc _=ay at aH HK⊢;have ch:V _:=HK.o.size;generalize cu:W.heap.size=bI at aH⊢;have bu:V _:=cu;clear cu;obtain⟨a9,N,aD⟩:ay.cell? _=some _/\ay.cell? _=some _/\ay.cell? _=some _:=⟨aH.o.c0,aH.o.c1,aH.o.c2⟩
 have a2:V _:=f.o _ HK.o;clear c0 c1 c2 C af f;generalize (gj _).length=j at a2 Q⊢;go_upto_region 29 with (go_at_call 141;refine yai a2.o ?_;rintro e ag ⟨aQ,bA,rfl,h,an⟩);have y:V _:=aH.o.keep an
 have ao:V (SgR _ g _ _ _):=⟨λba=>by
  obtain⟨bz,aK,aP,b3⟩:=h.at_ ba
  exact⟨_,aK,yan ch.o aP,b3⟩⟩
 have am:V _:=yai (Q.o _ _ bA (HK.o.trans an) ao.o) (λe aA t=>(⟨TrO.ret t,TrO.back (HK.o.trans an) t⟩:(∃x:Int,e=.returned _)/\V (TrO W P I _ _ _ _ _ r e _)));unfold i7 at am;simp only at am;clear a9 N aD aH h Q a2 ao;have a9:=y.o.c0;have N:=y.o.c1;have aD:=y.o.c2;clear y an;go_wp2_with (go_at_call 143;refine yai am.o ?_;rintro e bj ⟨⟨x,rfl⟩,bh⟩);go_ret;exact bh.o
end
section
open Go.RowKit Flt
variable{f:Nat}{u:Loc}{st:LSt}{k n:Tok}{a:Ex}{r:Rs (LSt×Nat)}
theorem AS(h:eP (f+1) st u (.key1 k a)=some r):∃az,eP f st u a=some az/\r=(if k.sym=yx then vr 13 false k.pos az else vr 9 true k.pos az):=by
 rw[eP]at h;cases B:eP f st u a with
 |none=>rw[B]at h;cases h
 |some az=>
  rw[B]at h;rcases az with⟨c,p⟩|⟨aq,x⟩
  ·cases h;refine⟨_,rfl,?_⟩;split<;>rfl
  cases h;exact⟨_,rfl,rfl⟩
theorem GR{ts}(h:cm 0 ts=some 0)(n)(hn:ts.length<=n):(spQ ts n).cur=ts:=by
 simp_all[spQ,List.take_of_length_le,qz]
section
variable{f:Nat}{W:World}{P I:Nat}{u1 u2 u3 u4:Value}{bs:List Bc}{st:LSt}{bC:Option Addr}{bn cL:Nat}{u:Loc}{g off m cap:Nat}{ts:List Tok}{a:Ex}{r:Rs (LSt×Nat)}
theorem Dz{k l q}(Q:TrC f)(H:TrIn W P I u1 u2 u3 u4 bs st bC bn u g off m cap (k::l::(ts++[q])))(O:k.sym=yx\/k.sym=Fo)(ah:l.sym=[40])(F:Pr 2 [a] ts)(ao:q.sym=[41])(h:eP (f+1) st u (.key1 k a)=some r):
  Calls prog 103 #[hD P,.slice bC bn cL,.slice (some ⟨g,off,none⟩) m cap] W (TrO W P I u1 u2 u3 u4 bs r):=by
 obtain⟨az,af,rfl⟩:=AS h;have aw:=H.tk.len;simp only[yap,yak,List.length_nil]at aw;have aF:=jl F;have y:=jQ F yad;have bM:=H.mc;have ca:ts≠[]:=λc=>by grind
 have cc:=jz F (λt ht=>H.ti t (by simp[ht])) a xac;have aI:ts=((k::l::(ts++[q])).drop 2).take (m-1-2):=by grind
 have aO:∀x:List _,x≠yx->x≠Fo->(k.sym==x)=false:=λx B U=>by
  grind
 refine lj H (Pr.key1 O ah F ao) (aO _ xab xab) (aO _ xab xab) (aO _ xab xab) (aO _ xab xab) (aO _ xab xab) xaa _ aI (by rw[GR y _ xaa];exact ca) _ (λW' aQ bA al aU=>?_);rw[ME ca y]at aU⊢;obtain⟨bz,rfl,_,au,aD⟩:=aU.at_ xac;obtain⟨o,c,c1,c2,c3⟩:=aD 0 xac
 have bg:∀aA,Kept 0 0 _ aA->_:=λaA an=>
  Q _ P I _ _ _ _ _ _ _ _ cL _ g o ts.length c ts ⟨H.ws.keep (al.trans an),H.gd,H.nm,H.lc.keep (al.trans an),H.ln,H.lo,c2.keep an,H.tg,hO H.m5,c3,λt ht=>H.ti t (by simp[ht]),λt ht=>H.tn t (by simp[ht])⟩ 2 a F yad _ af
 have bl:=gF f _ _ a H.gd H.nm H.lo cc _ af;obtain⟨ae,K,S⟩:=k;rcases O with O|O
 ·simp only at O;subst O;rw[hI rfl];exact Du (H.ws.keep al) _ _ xac au c1 _ bl bg
 simp only at O;subst O;rw[hG (show ¬(Fo=yx) by decide)];exact Dv (H.ws.keep al) _ _ xac au c1 _ bl bg
end
theorem WS.far2{W P I u1 u2 u3 u4 bs}(h:WS W P I u1 u2 u3 u4 bs st){b}(hb:W.heap.size<=b):¬Mst P u1 u2 u3 u4 b:=by
 exact xgs
def GT(k n:Tok)(r1:Rs (LSt×Nat)):Rs (LSt×Nat):=match r1 with|.error f=>.error f|.ok (s,a)=>mo s k a n
theorem AT(h:eP (f+1) st u (.keyN k a n)=some r):∃az,eP f st u a=some az/\r=Kp az (GT k n az):=by
 exact xdt
theorem pe{us X y}(ai:us≠[])(h:gj us=X++[y])(n)(hn:us.length<=n):(spQ us n).cur=y:=by
 simp_all[gj,spQ,List.take_of_length_le]
section
variable{f:Nat}{W:World}{P I:Nat}{u1 u2 u3 u4:Value}{bs:List Bc}{st:LSt}{bC:Option Addr}{bn cL:Nat}{u:Loc}{g off m cap:Nat}{ts:List Tok}{a:Ex}{r:Rs (LSt×Nat)}
theorem bJ.qbw(h:Zp:=by
 have cd:∀s x,az=.ok (s,x)->∀aA ba bc z aa,WS aA P I ba bc z aa bs s->Mv (Mst P u1 u2 u3 u4) W' (Mst P ba bc z aa) aA->Calls prog 155 #[hD P,i7 k,hF x,hE bz 2 bA] aA (TrO aA P I ba bc z aa bs (GT k n az)):=λs x e aA ba bc z aa X C=>by
  obtain⟨w,ap⟩:=bl s x e
  subst e
  exact Ga X w.g k O x ap n aY yad ⟨yaj au C.chg.size,(C.chg.cell (p:=⟨bz,1,none⟩) au v).trans br,c2'.keepC C.chg H.tg⟩
 obtain⟨ae,K,S⟩:=k;rcases O with O|O
 ·simp only at O;subst O;exact tO (.inl rfl) (H.ws.keep al) K S xac au c1 az _ bl bg cd
 simp only at O;subst O;exact tO (.inr (.inl rfl)) (H.ws.keep al) K S xac au c1 az _ bl bg cd):Zp:=h
theorem bJ.qew(h:Zp:=by
 exact qbv):Zp:=h
theorem bJ.qgv(h:Zp:=by
 have aY:=H.ti n xac hn;exact qif):Zp:=h
theorem bJ.qig(h:Zp:=by
 have aO:∀x:List UInt8,x≠uO->x≠qy->(k.sym==x)=false:=λx B U=>by
  rw[beq_eq_false_iff_ne]
  rintro rfl
  exact O.elim B U
 refine lj H (Pr.keyN O ah F ak hn ao) (aO _ xab xab) (aO _ xab xab) (aO _ xab xab) (aO _ xab xab) (aO _ xab xab) xaa (ts++c::[n]) aI (by rw[pe (X:=[ts]) (y:=[n]) xac ag _ yaf];simp) _ (λW' aQ bA al aU=>?_);exact qev):Zp:=h
open bJ in
theorem DA{k l c n q}(Q:TrC f)(H:TrIn W P I u1 u2 u3 u4 bs st bC bn u g off m cap (k::l::(ts++[c,n,q])))(O:k.sym=uO\/k.sym=qy)(ah:l.sym=[40])(F:Pr 2 [a] ts)(ak:c.sym=[44])(hn:n.sym=iE)(ao:q.sym=[41])(h:eP (f+1) st u (.keyN k a n)=some r):
  Calls prog 103 #[hD P,.slice bC bn cL,.slice (some ⟨g,off,none⟩) m cap] W (TrO W P I u1 u2 u3 u4 bs r):=by
 obtain⟨az,af,rfl⟩:=AT h;exact qgu
end
def BY(k i n:Tok)(r1:Rs (LSt×Nat)):Rs (LSt×Nat):=match r1 with|.error f=>.error f|.ok (s,a)=>mq s k a i n
theorem DB{i}(h:eP (f+1) st u (.put k a i n)=some r):∃az,eP f st u a=some az/\r=Kp az (BY k i n az):=by
 exact xdt
section
variable{f:Nat}{W:World}{P I:Nat}{u1 u2 u3 u4:Value}{bs:List Bc}{st:LSt}{bC:Option Addr}{bn cL:Nat}{u:Loc}{g off m cap:Nat}{ts:List Tok}{a:Ex}{r:Rs (LSt×Nat)}
theorem bK.qbw(h:Zp:=by
 have cd:∀s x,az=.ok (s,x)->∀aA ba bc z aa,WS aA P I ba bc z aa bs s->Mv (Mst P u1 u2 u3 u4) W' (Mst P ba bc z aa) aA->Calls prog 155 #[hD P,i7 k,hF x,hE bz 3 bA] aA (TrO aA P I ba bc z aa bs (BY k i n az)):=λs x e aA ba bc z aa X C=>by
  obtain⟨w,ap⟩:=bl s x e
  subst e
  exact GG X w.g k O x ap i J yad ⟨yaj au C.chg.size,(C.chg.cell (p:=⟨bz,1,none⟩) au v).trans br,c2'.keepC C.chg H.tg⟩ n aY ⟨yaj au C.chg.size,(C.chg.cell (p:=⟨bz,2,none⟩) au v).trans aB,N.keepC C.chg H.tg⟩
 obtain⟨ae,K,S⟩:=k;simp only at O;subst O;exact tO (.inr (.inr rfl)) (H.ws.keep al) K S xac au c1 az _ bl bg cd):Zp:=h
theorem bK.qew(h:Zp:=by
 obtain⟨bO,p,aB,N,U⟩:=aD 2 xac;exact qbv):Zp:=h
theorem bK.qgv(h:Zp:=by
 have aY:=H.ti n xac hn;have J:=H.ti i xac hi;have Z:=sX (by rw[hi];decide) (by rw[hi];decide) (by rw[hi];decide);have ee:=sX (by rw[hn];decide) (by rw[hn];decide) (by rw[hn];decide);have ag:=Ax y ak Z G ee
 have aI:ts++c::([i]++d::[n])=((k::l::(ts++[c,i,d,n,q])).drop 2).take (m-1-2):=by
  rw[List.drop_succ_cons,List.drop_succ_cons,List.drop_zero,show ts++[c,i,d,n,q]=(ts++c::([i]++d::[n]))++[q] by simp,List.take_append_of_le_length yaf,yao yaf]
 have aO:∀x:List UInt8,x≠CS->(k.sym==x)=false:=λx B=>by
  rw[beq_eq_false_iff_ne]
  rintro rfl
  exact B O
 refine lj H (Pr.put O ah F ak hi G hn ao) (aO _ xab) (aO _ xab) (aO _ xab) (aO _ xab) (aO _ xab) xaa (ts++c::([i]++d::[n])) aI (by rw[pe (X:=[ts,[i]]) (y:=[n]) xac ag _ yaf];simp) _ (λW' aQ bA al aU=>?_);exact qev):Zp:=h
open bK in
theorem GU{k l c i d n q}(Q:TrC f)(H:TrIn W P I u1 u2 u3 u4 bs st bC bn u g off m cap (k::l::(ts++[c,i,d,n,q])))(O:k.sym=CS)(ah:l.sym=[40])(F:Pr 2 [a] ts)(ak:c.sym=[44])(hi:i.sym=iE)(G:d.sym=[44])(hn:n.sym=iE)(ao:q.sym=[41])(h:eP (f+1) st u (.put k a i n)=some r):
  Calls prog 103 #[hD P,.slice bC bn cL,.slice (some ⟨g,off,none⟩) m cap] W (TrO W P I u1 u2 u3 u4 bs r):=by
 obtain⟨az,af,rfl⟩:=DB h;exact qgu
end
end
section
open Go.RowKit Flt
attribute[local go_sem] eF eE eD
variable{P I bn cL g off m cap:Nat}{u1 u2 u3 u4:Value}{bs:List Bc}{st:LSt}{bC:Option Addr}{u:Loc}{ts:List Tok}
theorem TrIn.seg{W}(h:TrIn W P I u1 u2 u3 u4 bs st bC bn u g off m cap ts){W' ba bc z aa N}(X:WS W' P I ba bc z aa bs N)(w:Gw st N)(k:Mv (Mst P u1 u2 u3 u4) W (Mst P ba bc z aa) W'){o n c us}(K:TkA W' g o n us)(hn:n<=m)(ak:n<=c)(aI:∀t∈us,t∈ts):TrIn W' P I ba bc z aa bs N bC bn u g o n c us where
 ws:=X
 gd:=w.g
 nm:=h.nm.gw w
 lc:=h.lc.mv k
 ln:=h.ln
 lo:=h.lo.le w.n
 tk:=K
 tg:=λc=>(k.new g c).elim h.tg (λc=>hO h.tk.lt)
 m5:=hO h.m5
 mc:=ak
 ti:=λt ht=>h.ti t (aI t ht)
 tn:=λt ht=>h.tn t (aI t ht)
theorem D.qal(h:Zp:=by
 change Code.wp _ _ _ _ (W.alloc (.cells #[eO [105,110,116],hF aT,eO bv] 89));have aH:V _:=im W [105,110,116] aT bv;have HK:V _:=ez 0 0 W (.cells #[eO [105,110,116],hF aT,eO bv] 89);generalize W.alloc (.cells #[eO [105,110,116],hF aT,eO bv] 89)=ay at aH HK⊢;exact xbi):Zp:=h
open D in
theorem DC{W}(H:TrIn W P I u1 u2 u3 u4 bs st bC bn u g off m cap ts){e}(aF:Pr 0 [e] ts)(ai:(ts.getD 0 hL).sym=[105,110,116])(U:1<=m)(bB:kN (ts.getD 0 hL).text):
  Calls prog 103 #[hD P,.slice bC bn cL,.slice (some ⟨g,off,none⟩) m cap] W (TrO W P I u1 u2 u3 u4 bs (gh st ⟨1,1,0,0,0,oz (ts.getD 0 hL).text⟩ (ts.getD 0 hL).pos)):=by
 exact qak
theorem E.qal(h:Zp:=by
 change Code.wp _ _ _ _ (W.alloc (.cells #[eO [100,101,99],hF aT,eO bv] 89));have aH:V _:=im W [100,101,99] aT bv;have HK:V _:=ez 0 0 W (.cells #[eO [100,101,99],hF aT,eO bv] 89);generalize W.alloc (.cells #[eO [100,101,99],hF aT,eO bv] 89)=ay at aH HK⊢;exact xbi):Zp:=h
open E in
theorem DD{W}(H:TrIn W P I u1 u2 u3 u4 bs st bC bn u g off m cap ts){e}(aF:Pr 0 [e] ts)(ai:(ts.getD 0 hL).sym=[100,101,99])(U:1<=m)(bB:kN (ts.getD 0 hL).text):
  Calls prog 103 #[hD P,.slice bC bn cL,.slice (some ⟨g,off,none⟩) m cap] W (TrO W P I u1 u2 u3 u4 bs (gh st ⟨1,1,0,0,0,oz (ts.getD 0 hL).text⟩ (ts.getD 0 hL).pos)):=by
 exact qak
section
variable{f:Nat}{W:World}{P I:Nat}{u1 u2 u3 u4:Value}{bs:List Bc}{st:LSt}{bC:Option Addr}{bn cL:Nat}{u:Loc}{g off m cap:Nat}{t:Tok}{r:Rs (LSt×Nat)}
theorem GV(H:TrIn W P I u1 u2 u3 u4 bs st bC bn u g off m cap [t])(ht:t.sym=iE\/t.sym=kZ)(h:eP (f+1) st u (.num t)=some r):
  Calls prog 103 #[hD P,.slice bC bn cL,.slice (some ⟨g,off,none⟩) m cap] W (TrO W P I u1 u2 u3 u4 bs r):=by
 rw[eP]at h;have e:=hJ h;have bB:=H.tn t xac ht;have aw:=H.tk.len;have bg:[t].getD 0 hL=t:=rfl;have B:1<=m:=by grind
 rcases ht with ht|ht
 ·have k:=DC (cL:=cL) H (Pr.num (.inl ht)) (hR bg ht) B (by grind);rw[bg,e]at k;exact k
 have k:=DD (cL:=cL) H (Pr.num (.inr ht)) (hR bg ht) B (by grind);rw[bg,e]at k;exact k
end
end
section
open Go.RowKit Flt
variable{f P I bn g bz:Nat}{u1 u2 u3 u4:Value}{st s:LSt}{r:Rs (LSt×Nat)}{u:Loc}{bs:List Bc}{bC:Option Addr}{es:List Ex}
theorem mL(aY):∀(es:List Ex) (st:LSt) (R:Rs (LSt×List Nat)),gz aY st es=some R->∀k,k<es.length->∀s xs,gz aY st (es.take k)=some (.ok (s,xs))->∃r,aY s (es.getD k (.num hL))=some r/\(∀f,r=.error f->R=.error f)/\(∀aN a,r=.ok (aN,a)->gz aY st (es.take (k+1))=some (.ok (aN,xs++[a])))
 |[],_,_,_,k,O,_,_,_=>by simp at O
 |e::es,st,R,h,0,_,s,xs,ae=>by
  rw[List.take_zero,gz]at ae
  grind[gz]
 |e::es,st,R,h,k+1,O,s,xs,ae=>by
  rw[List.take_succ_cons,gz]at ae
  rw[gz]at h
  cases B:aY st e with
  |none=>grind
  |some bo=>
   rw[B]at h ae
   rcases bo with f|⟨aq,a⟩
   ·cases ae
   ·simp only at h ae
    cases U:gz aY aq es with
    |none=>grind
    |some R'=>
     cases h3:gz aY aq (es.take k) with
     |none=>grind
     |some R3=>
      rw[h3]at ae
      rcases R3 with f|⟨bA,bc⟩
      ·cases ae
      ·cases ae
       obtain⟨r,am,an,aJ⟩:=mL _ _ _ _ U k (by grind) s _ h3
       refine⟨r,am,λf af=>?_,λaN b af=>?_⟩
       ·simp_all
       ·simp_all[gz]
structure ArgS(f:Nat)(W:World)(P B:Nat)(u1 u2 u3 u4:Value)(bs:List Bc)(st:LSt)(aL:Option Addr)(nL cL:Nat)(loc:Loc)(g gr:Nat)(es:List Ex):Prop where
 lt:gr<W.heap.size
 nM:¬Mst P u1 u2 u3 u4 gr
 call:∀i,i<es.length->∃o n c,W.cell? ⟨gr,i,none⟩=some (.slice (some ⟨g,o,none⟩) n c)/\∀s r W' z1 z2 z3 z4,Gw st s->eP f s loc (es.getD i (.num hL))=some r->WS W' P B z1 z2 z3 z4 bs s->Mv (Mst P u1 u2 u3 u4) W (Mst P z1 z2 z3 z4) W'->RsG s r/\Calls prog 103 #[.pointer (some ⟨P,0,none⟩),.slice aL nL cL,.slice (some ⟨g,o,none⟩) n c] W' (TrO W' P B z1 z2 z3 z4 bs r)
theorem ArgS.cell{W cL}(h:ArgS f W P I u1 u2 u3 u4 bs st bC bn cL u g bz es){W'}(c:Chg (Mst P u1 u2 u3 u4) W W')(i):W'.cell? ⟨bz,i,none⟩=W.cell? ⟨bz,i,none⟩:=c.cell (p:=⟨bz,i,none⟩) h.lt h.nM
theorem ArgS.of(Q:TrC f){W0 W}(cL){off m cap ts}(H:TrIn W0 P I u1 u2 u3 u4 bs st bC bn u g off m cap ts)(al:Kept 0 0 W0 W){h:List (List Tok)}(ax:W0.heap.size<=bz)(au:bz<W.heap.size)(aU:∀i,i<h.length->∃o c,W.cell? ⟨bz,i,none⟩=some (.slice (some ⟨g,o,none⟩) (h.getD i []).length c)/\TkA W g o (h.getD i []).length (h.getD i [])/\(h.getD i []).length<=c)(ah:h.length=es.length)(hP:∀i,i<es.length->Pr 2 [es.getD i (.num hL)] (h.getD i []))(hn:∀i,i<h.length->(h.getD i []).length<=m)(aI:∀i,i<h.length->∀t∈h.getD i [],t∈ts):ArgS f W P I u1 u2 u3 u4 bs st bC bn cL u g bz es where
 lt:=au
 nM:=H.ws.far2 ax
 call:=λi hi=>by
  obtain⟨o,c,c1,c2,c3⟩:=aU i xaa
  refine⟨o,_,c,c1,λs r W' aS bb bq bD w e X C=>?_⟩
  have j:=hP i hi
  have l:=aI i xaa
  exact⟨gF f s _ _ w.g (H.nm.gw w) (H.lo.le w.n) (jz j (λt ht=>H.ti t (l t ht)) _ xac) r e,Q _ P I _ _ _ _ _ s _ _ _ _ g o _ c _ (H.seg X w ((Mv.of al).trans C) (c2.keepC C.chg H.tg) (hn i xaa) c3 l) 2 _ j yad r e⟩
theorem FtI.lit{W aF ba bc z aa}(F:WS aF P I ba bc z aa bs s)(C:Mv (Mst P u1 u2 u3 u4) W (Mst P ba bc z aa) aF)(a:Nat):FtI W (aF.alloc (.cells #[hF a] 3)) P I u1 u2 u3 u4 bs s (hE aF.heap.size 1 1) [a]:=by
 have bE:=ez 0 0 aF (.cells #[hF a] 3);have ae:=C.chg.size;have bB:∀b,(hE aF.heap.size 1 1).ownBlock=some b->b=aF.heap.size:=λb hb=>by simp[Value.ownBlock]at hb;omega
 refine⟨⟨_,_,_,_,F.keep bE,⟨(C.keep bE).chg,λb hb=>?_⟩,λb hb c=>?_⟩,⟨rfl,.inr ⟨_,1,#[.int _ a],rfl,ae,?_,yad,by unfold maxLen;omega,rfl,rfl⟩⟩⟩
 ·rcases hb with c|c
  ·exact C.new b c
  grind
 ·rw[bB b hb]at c;exact F.far c
 simp[World.alloc,-World.alloc_eq]
theorem FtI.xs{W W' o aW}(h:FtI W W' P I u1 u2 u3 u4 bs s o aW):∃a c ba bc z aa,o=.slice a aW.length c/\WS W' P I ba bc z aa bs s/\Mv (Mst P u1 u2 u3 u4) W (Mst P ba bc z aa) W'/\XsR (Mst P ba bc z aa) W' a aW.length aW:=by
 obtain⟨ba,bc,z,aa,az,aw,bQ⟩:=h.ex;obtain⟨aV,b5,ax⟩:=jr h.row;refine⟨_,_,_,_,_,_,ax,az,⟨aw.chg,λb hb=>aw.new b (.inl hb)⟩,⟨rfl,λbo=>?_⟩⟩;have ae:=h.row;rcases ae.2 with⟨_,c⟩|⟨g,c,H,e,N,aD,ad,_,bE,bY⟩
 ·omega
 rw[ax]at e;cases e;have aQ:g<W'.heap.size:=by grind
 refine⟨g,0,rfl,bQ g (by rw[ax];simp[Value.ownBlock]),aQ,λk O=>?_⟩;rw[Nat.zero_add,cell_of_row _ g _ _ _ _ aD,<-Array.getElem?_toList];have:(H.toList.take (aW.length*1))[k]? =(aW.map λj:Nat=>Value.int .i64 j)[k]?:=by rw[bY]
 grind
def mM(ks:List UInt8)(k:Tok)(s:LSt)(xs:List Nat):Rs (LSt×Nat):=
 match kj s xs k.pos with
 |.error f=>.error f
 |.ok (s2,f)=>
  if ks=yy then gh s2 (eK 8 (fe s2 (f.getD 0 0)) (f.getD 0 0:Nat) (f.getD 1 0:Nat) (f.getD 2 0:Nat)) k.pos
  else if ks=Au then gh s2 (eK 7 (fe s2 (f.getD 0 0)) (f.getD 0 0:Nat) (f.getD 1 0:Nat) 0) k.pos
  else match gh s2 (eK 4 (fe s2 (f.getD 0 0)) (f.getD 0 0:Nat) (f.getD 1 0:Nat) 0) k.pos with
   |.error f=>.error f
   |.ok (s3,p)=>gh s3 (eK 9 1 (p:Int) 0 0) k.pos
def rT(ks:List UInt8)(k:Tok)(R:Rs (LSt×List Nat)):Rs (LSt×Nat):=match R with
 |.error f=>.error f
 |.ok (s,xs)=>mM ks k s xs
theorem DE{k a b}(O:k.sym≠yy)(h:eP (f+1) st u (.key2 k a b)=some r):∃R,gz (λs e=>eP f s u e) st [a,b]=some R/\r=rT k.sym k R:=by
 rw[eP]at h;simp only[gz];cases B:eP f st u a with
 |none=>rw[B]at h;cases h
 |some az=>
  rw[B]at h;rcases az with f1|⟨aq,x⟩
  ·cases h;exact⟨_,rfl,rfl⟩
  simp only[jH]at h⊢;cases U:eP f aq u b with
  |none=>grind
  |some aZ=>
   rw[U]at h;rcases aZ with f2|⟨aN,y⟩
   ·cases h;exact⟨_,rfl,rfl⟩
   cases h;refine⟨_,rfl,?_⟩;show qH aN k x y=mM k.sym k aN [x,y];grind[qH,mM]
theorem DF{k a b c}(O:k.sym=yy)(h:eP (f+1) st u (.key3 k a b c)=some r):∃R,gz (λs e=>eP f s u e) st [a,b,c]=some R/\r=rT k.sym k R:=by
 rw[eP]at h;simp only[gz];cases B:eP f st u a with
 |none=>rw[B]at h;cases h
 |some az=>
  rw[B]at h;rcases az with f1|⟨aq,x⟩
  ·cases h;exact⟨_,rfl,rfl⟩
  simp only[jH]at h⊢;cases U:eP f aq u b with
  |none=>grind
  |some aZ=>
   rw[U]at h;rcases aZ with f2|⟨aN,y⟩
   ·cases h;exact⟨_,rfl,rfl⟩
   simp only at h⊢;cases h3:eP f aN u c with
   |none=>grind
   |some ar=>
    rw[h3]at h;rcases ar with f3|⟨bA,z⟩
    ·cases h;exact⟨_,rfl,rfl⟩
    cases h;refine⟨_,rfl,?_⟩;show xq bA k x y z=mM k.sym k bA [x,y,z];grind[xq,mM]
end
section
open Go.RowKit Flt
attribute[local go_sem] eF eE eD
variable{f P I bn cL g bz b0:Nat}{u1 u2 u3 u4:Value}{bs:List Bc}{bC:Option Addr}{es:List Ex}
theorem aP.qbe(h:Zp:=by
 generalize U:aq.vs.length=bK at bd a5 F bB;clear U;go_upto_region 34 with fail;clear bd a5 bw ch;go_wp2_with fail;go_loopw [18,19] (λb3 bX W'=>∃(k:Nat) (s:LSt) (xs:List Nat),1<=k/\k<=2/\bX=hF k/\xs.length=k/\V (gz (λs e=>eP f s u e) st (es.take k)=some (.ok (s,xs)))/\V (FtI ay W' P I u1 u2 u3 u4 bs s b3 xs)/\V (Gw st s)/\V (∀i∈xs,i<s.vs.length)) (λ_ bX _=>2-(intOf bX).toNat)
 case atStart=>exact⟨1,aq,[a],yad,by decide,rfl,rfl,b5,bZ,aU,dv⟩
 case round=>
  obtain⟨k,s,xs,ek,bE,rfl,(aG:V _),ar,bl,v,O⟩:=hrel;clear b5 bZ aU dv;by_cases aB:k<2
  ·exact xam
  obtain rfl:k=2:=xaa;exact qhx):Zp:=h
theorem aP.qeh(h:Zp:=by
 exact qim):Zp:=h
theorem aP.qel(h:Zp:=by
 rcases bo with⟨c,p⟩|⟨aq,a⟩
 ·exact xdk
 exact qbd):Zp:=h
theorem aP.qgl(h:Zp:=by
 obtain⟨br,a1,Z,a3,a4,bS⟩:=ae.o bj (Kept.refl 0 0 bj);exact qhv):Zp:=h
theorem aP.qgt(h:Zp:=by
 rcases q with⟨c,p⟩|⟨bA,ab⟩
 ·exact xdc
 obtain⟨ad,aI,nn,aM⟩:=cn.o bA ab rfl;rw[aG.o]at aI
 obtain⟨j,n,rfl⟩:∃j n,ab=[j,n]:=by
  match ab,aI with
  |[a,b],_=>exact⟨a,b,rfl⟩
 have ai:=(aM j xac).1
 have bR:V (r=gh bA (eK 7 (fe bA j) (j:Nat) (n:Nat) 0) K):=by
  show _=_;rw[bP.o];unfold mM;rw[<-cd.o];rfl
 exact qeg):Zp:=h
theorem aP.qhi(h:Zp:=by
 change Code.wp _ _ _ _ (W.alloc (.cells #[eO [109,97,120],hF K,eO S] 89));generalize W.alloc (.cells #[eO [109,97,120],hF K,eO S] 89)=ay at aH HK⊢;exact qek):Zp:=h
theorem aP.qhw(h:Zp:=by
 have ak:V (∀W',Kept 0 0 bj W'->Calls prog 106 #[hD P,(eK 7 (fe bA j) (j:Nat) (n:Nat) 0).agg,hF K] W' λe aA=>(∃x:Int,e=.returned (hF x))/\V (TrO W P I u1 u2 u3 u4 bs r e aA)/\aA.cell? ⟨bI,1,none⟩=some (hF K)/\aA.cell? ⟨aT,of,none⟩=some (hF (j:Nat))/\aA.cell? ⟨aT,of+1,none⟩=some (hF (n:Nat))):=λW' al=>yai (ms (ds.o.keep al) c8.o (eK 7 (fe bA j) (j:Nat) (n:Nat) 0) ec yag K) (λe aA t=>⟨t.ret,by
  show TrO W P I u1 u2 u3 u4 bs r e aA
  rw[bR.o]
  exact TrO.after (cw.o.keep al) t,di.o W' aA al t.chg⟩)
 clear bR cw di c8 ds ec ad aQ ed HK bp aL br a1 Z a3 a4 bS;generalize fe bA j=l at ae ak cJ⊢;generalize bA.vs.length=bK at*;generalize bj.drewN nq=bF at bv cJ⊢;obtain⟨br,a1,Z,a3,a4,bS⟩:=cJ.o;go_upto_region 49 with fail
 go_region_held3 (λJ=>J.cell? ⟨bI,1,none⟩=some (hF K)/\J.cell? ⟨aT,of,none⟩=some (hF (j:Nat))/\J.cell? ⟨aT,of+1,none⟩=some (hF (n:Nat))) (go_keep)
  (first
   |(go_at_call 39;refine yai (gS _ _ _ _ _ _) ?_;rintro e cg ⟨rfl,cb⟩;obtain⟨bf,aO,aX,ah,bg,a2⟩:=ae.o cg (bv.o.trans ((eG bF).trans cb)))
   |(go_at_call 106;refine yai (ak.o _ (bv.o.trans ((eG bF).trans cb))) ?_;rintro e cf ⟨⟨ci,rfl⟩,bh,bG,bi,ei⟩))
 all_goals (go_wp2_with fail;go_ret;exact bh.o)):Zp:=h
theorem aP.qhy(h:Zp:=by
 have bP:V (r=mM [109,97,120] ⟨[109,97,120],K,S⟩ s xs):=by show _=_;rw[HR.o,cA.o];rfl
 exact qio):Zp:=h
theorem aP.qii(h:Zp:=by
 obtain⟨r,av⟩:∃r,r=rT [109,97,120] ⟨[109,97,120],K,S⟩ R:=⟨_,rfl⟩
 exact qhh):Zp:=h
theorem aP.qin(h:Zp:=by
 have ae:V (∀W',Kept 0 0 bj W'->W'.cell? ⟨bI,0,none⟩=some (eO [109,97,120])/\W'.cell? ⟨bI,1,none⟩=some (hF K)/\W'.cell? ⟨P,1,none⟩=some (hE bx bA.vs.length cv)/\W'.cell? ⟨bx,j*6+1,none⟩=some (hF (fe bA j))/\W'.cell? ⟨aT,of,none⟩=some (hF (j:Nat))/\W'.cell? ⟨aT,of+1,none⟩=some (hF (n:Nat))):=λW' al=>⟨(aQ.o.keep al).c0,(aQ.o.keep al).c1,(ax.keep al).c1,(al.cell (p:=⟨bx,j*6+1,none⟩) b9 xaa).trans bd,(al.cell (p:=⟨aT,of,none⟩) an xaa).trans (ck 0 xac),(al.cell (p:=⟨aT,of+1,none⟩) an xaa).trans (ck 1 xac)⟩
 exact qgk):Zp:=h
open aP in
theorem DH{W st u}(h:WS W P I u1 u2 u3 u4 bs st)(H:Gd st)(K S)(cD:es.length=2)(aY:ArgS f W P I u1 u2 u3 u4 bs st bC bn cL u g bz es)(R)(C:gz (λs e=>eP f s u e) st es=some R):
  Calls prog 143 #[hD P,.slice bC bn cL,i7 ⟨[109,97,120],K,S⟩,hE bz 2 b0] W (TrO W P I u1 u2 u3 u4 bs (rT [109,97,120] ⟨[109,97,120],K,S⟩ R)):=by
 have aH:V _:=im W [109,97,120] K S;have HK:V _:=ez 0 0 W (.cells #[eO [109,97,120],hF K,eO S] 89);exact qih
theorem aQ.qbe(h:Zp:=by
 generalize h3:aq.vs.length=bK at bd a5 F bB;clear h3;go_upto_region 34 with fail;clear bd a5 bw ch;go_wp2_with fail;go_loopw [18,19] (λb3 bX W'=>∃(k:Nat) (s:LSt) (xs:List Nat),1<=k/\k<=3/\bX=hF k/\xs.length=k/\V (gz (λs e=>eP f s u e) st (es.take k)=some (.ok (s,xs)))/\V (FtI ay W' P I u1 u2 u3 u4 bs s b3 xs)/\V (Gw st s)/\V (∀i∈xs,i<s.vs.length)) (λ_ bX _=>3-(intOf bX).toNat)
 case atStart=>exact⟨1,aq,[a],yad,by decide,rfl,rfl,b5,bZ,aU,dv⟩
 case round=>
  obtain⟨k,s,xs,ek,bE,rfl,(aG:V _),ar,bl,v,O⟩:=hrel;clear b5 bZ aU dv;by_cases aB:k<3
  ·exact xam
  obtain rfl:k=3:=xaa;exact qhx):Zp:=h
theorem aQ.qeh(h:Zp:=by
 exact qim):Zp:=h
theorem aQ.qel(h:Zp:=by
 rcases bo with⟨c,p⟩|⟨aq,a⟩
 ·exact xdk
 exact qbd):Zp:=h
theorem aQ.qgt(h:Zp:=by
 rcases q with⟨c,p⟩|⟨bA,ab⟩
 ·exact xdc
 obtain⟨ad,aI,nn,aM⟩:=cn.o bA ab rfl;rw[aG.o]at aI
 obtain⟨j,n,N,rfl⟩:∃j n N,ab=[j,n,N]:=by
  match ab,aI with
  |[a,b,c],_=>exact⟨a,b,c,rfl⟩
 have ai:=(aM j xac).1
 have bR:V (r=gh bA (eK 8 (fe bA j) (j:Nat) (n:Nat) (N:Nat)) K):=by
  show _=_;rw[bP.o];unfold mM;rw[<-cd.o];rfl
 exact qeg):Zp:=h
theorem aQ.qhi(h:Zp:=by
 change Code.wp _ _ _ _ (W.alloc (.cells #[eO [115,101,108],hF K,eO S] 89));generalize W.alloc (.cells #[eO [115,101,108],hF K,eO S] 89)=ay at aH HK⊢;exact qek):Zp:=h
theorem aQ.qhw(h:Zp:=by
 have ak:V (∀W',Kept 0 0 bj W'->Calls prog 106 #[hD P,(eK 8 (fe bA j) (j:Nat) (n:Nat) (N:Nat)).agg,hF K] W' λe aA=>(∃x:Int,e=.returned (hF x))/\V (TrO W P I u1 u2 u3 u4 bs r e aA)/\aA.cell? ⟨bI,1,none⟩=some (hF K)/\aA.cell? ⟨aT,of,none⟩=some (hF (j:Nat))/\aA.cell? ⟨aT,of+1,none⟩=some (hF (n:Nat))/\aA.cell? ⟨aT,of+2,none⟩=some (hF (N:Nat))):=λW' al=>yai (ms (ds.o.keep al) c8.o (eK 8 (fe bA j) (j:Nat) (n:Nat) (N:Nat)) ec yag K) (λe aA t=>⟨t.ret,by
  show TrO W P I u1 u2 u3 u4 bs r e aA
  rw[bR.o]
  exact TrO.after (cw.o.keep al) t,di.o W' aA al t.chg⟩)
 clear bR cw di c8 ds ec ad aQ ed HK bp aL br a1 Z a3 a4 bS cx;generalize fe bA j=l at ae ak cJ⊢;generalize bA.vs.length=bK at*;generalize bj.drewN nq=bF at bv cJ⊢;obtain⟨br,a1,Z,a3,a4,bS,cx⟩:=cJ.o;go_upto_region 47 with fail
 go_region_held3 (λJ=>J.cell? ⟨bI,1,none⟩=some (hF K)/\J.cell? ⟨aT,of,none⟩=some (hF (j:Nat))/\J.cell? ⟨aT,of+1,none⟩=some (hF (n:Nat))/\J.cell? ⟨aT,of+2,none⟩=some (hF (N:Nat))) (go_keep)
  (first
   |(go_at_call 39;refine yai (gS _ _ _ _ _ _) ?_;rintro e cg ⟨rfl,cb⟩;obtain⟨bf,aO,aX,ah,bg,a2,bL⟩:=ae.o cg (bv.o.trans ((eG bF).trans cb)))
   |(go_at_call 106;refine yai (ak.o _ (bv.o.trans ((eG bF).trans cb))) ?_;rintro e cf ⟨⟨ci,rfl⟩,bh,bG,bi,ei,b4⟩))
 all_goals (go_wp2_with fail;go_ret;exact bh.o)):Zp:=h
theorem aQ.qhy(h:Zp:=by
 have bP:V (r=mM [115,101,108] ⟨[115,101,108],K,S⟩ s xs):=by show _=_;rw[HR.o,cA.o];rfl
 exact qio):Zp:=h
theorem aQ.qii(h:Zp:=by
 obtain⟨r,av⟩:∃r,r=rT [115,101,108] ⟨[115,101,108],K,S⟩ R:=⟨_,rfl⟩
 exact qhh):Zp:=h
theorem aQ.qin(h:Zp:=by
 have ae:V (∀W',Kept 0 0 bj W'->W'.cell? ⟨bI,0,none⟩=some (eO [115,101,108])/\W'.cell? ⟨bI,1,none⟩=some (hF K)/\W'.cell? ⟨P,1,none⟩=some (hE bx bA.vs.length cv)/\W'.cell? ⟨bx,j*6+1,none⟩=some (hF (fe bA j))/\W'.cell? ⟨aT,of,none⟩=some (hF (j:Nat))/\W'.cell? ⟨aT,of+1,none⟩=some (hF (n:Nat))/\W'.cell? ⟨aT,of+2,none⟩=some (hF (N:Nat))):=λW' al=>⟨(aQ.o.keep al).c0,(aQ.o.keep al).c1,(ax.keep al).c1,(al.cell (p:=⟨bx,j*6+1,none⟩) b9 xaa).trans bd,(al.cell (p:=⟨aT,of,none⟩) an xaa).trans (ck 0 xac),(al.cell (p:=⟨aT,of+1,none⟩) an xaa).trans (ck 1 xac),(al.cell (p:=⟨aT,of+2,none⟩) an xaa).trans (ck 2 xac)⟩
 have di:V (∀W' aA,Kept 0 0 bj W'->Chg (Mst P aR (hE bx bA.vs.length cv) bY ce) W' aA->aA.cell? ⟨bI,1,none⟩=some (hF K)/\aA.cell? ⟨aT,of,none⟩=some (hF (j:Nat))/\aA.cell? ⟨aT,of+1,none⟩=some (hF (n:Nat))/\aA.cell? ⟨aT,of+2,none⟩=some (hF (N:Nat))):=λW' aA al bT=>by
  obtain⟨a7,aK,_,_,ap,aC,m⟩:=ae.o W' al
  have X:=(aQ.o.keep al).lt
  have dg:=yaj an al.size
  exact⟨(bT.cell (p:=⟨bI,1,none⟩) X ca).trans aK,(bT.cell (p:=⟨aT,of,none⟩) dg cc).trans ap,(bT.cell (p:=⟨aT,of+1,none⟩) dg cc).trans aC,(bT.cell (p:=⟨aT,of+2,none⟩) dg cc).trans m⟩
 have bB:=ad.g.n;have ec:=ad.g.lenB ai;have c8:V _:=ad.g;have ds:V _:=ax;have ed:V _:=ca;obtain⟨br,a1,Z,a3,a4,bS,cx⟩:=ae.o bj (Kept.refl 0 0 bj);exact qhv):Zp:=h
open aQ in
theorem DJ{W st u}(h:WS W P I u1 u2 u3 u4 bs st)(H:Gd st)(K S)(cD:es.length=3)(aY:ArgS f W P I u1 u2 u3 u4 bs st bC bn cL u g bz es)(R)(C:gz (λs e=>eP f s u e) st es=some R):
  Calls prog 143 #[hD P,.slice bC bn cL,i7 ⟨[115,101,108],K,S⟩,hE bz 3 b0] W (TrO W P I u1 u2 u3 u4 bs (rT [115,101,108] ⟨[115,101,108],K,S⟩ R)):=by
 have aH:V _:=im W [115,101,108] K S;have HK:V _:=ez 0 0 W (.cells #[eO [115,101,108],hF K,eO S] 89);exact qih
