import Derived.Test.YtkjahdegnkmejaaGreatP08
import Derived.Test.YtkjahdegnkmejaaGreatP07
namespace Go.Proofs.Z
variable{Zp:Prop}
open Tryz Go.RowKit Flt
set_option maxRecDepth 1000000
set_option maxHeartbeats 0
section
attribute[local go_sem] eE eC eB
variable{w O F:World}{lo g p hi lo' l hi' h:Nat}{bE R a6 U:Value}
structure Ste where
 op:Int
 len:Int
 n:Int
 dst:Int
 a:Int
 b:Int
 c:Int
 k:Nat
def Ste.cells(v:Ste):List Value:=[.int .i64 v.op,.int .i64 v.len,.int .i64 v.n,.int .i64 v.dst,.int .i64 v.a,.int .i64 v.b,.int .i64 v.c,.float .f64 v.k]
def Ste.zero:Ste:=⟨0,0,0,0,0,0,0,0⟩
abbrev Ste.agg(v:Ste):Value:=.agg #[.int .i64 v.op,.int .i64 v.len,.int .i64 v.n,.int .i64 v.dst,.int .i64 v.a,.int .i64 v.b,.int .i64 v.c,.float .f64 v.k]
abbrev Ste.box(v:Ste):Obj:=.cells #[.int .i64 v.op,.int .i64 v.len,.int .i64 v.n,.int .i64 v.dst,.int .i64 v.a,.int .i64 v.b,.int .i64 v.c,.float .f64 v.k] 43
structure AtT(w:World)(g o:Nat)(v:Ste):Prop where
 c0:w.cell? ⟨g,o,none⟩=some (.int .i64 v.op)
 c1:w.cell? ⟨g,o+1,none⟩=some (.int .i64 v.len)
 c2:w.cell? ⟨g,o+2,none⟩=some (.int .i64 v.n)
 c3:w.cell? ⟨g,o+3,none⟩=some (.int .i64 v.dst)
 c4:w.cell? ⟨g,o+4,none⟩=some (.int .i64 v.a)
 c5:w.cell? ⟨g,o+5,none⟩=some (.int .i64 v.b)
 c6:w.cell? ⟨g,o+6,none⟩=some (.int .i64 v.c)
 c7:w.cell? ⟨g,o+7,none⟩=some (.float .f64 v.k)
theorem xI:(prog.info? 43).map (λi=>(i.zero,i.size,i.bytes))=some (some (.agg #[ih 0,ih 0,ih 0,ih 0,ih 0,ih 0,ih 0,.float .f64 0]),8,64):=by kernel_rfl
abbrev put8(w:World)(g o:Nat)(v:Ste):World:=
 ((((((((w.setCell ⟨g,o,none⟩ (.int .i64 v.op)).setCell ⟨g,o+1,none⟩ (.int .i64 v.len)).setCell ⟨g,o+2,none⟩ (.int .i64 v.n)).setCell ⟨g,o+3,none⟩ (.int .i64 v.dst)).setCell ⟨g,o+4,none⟩ (.int .i64 v.a)).setCell ⟨g,o+5,none⟩ (.int .i64 v.b)).setCell ⟨g,o+6,none⟩ (.int .i64 v.c)).setCell ⟨g,o+7,none⟩ (.float .f64 v.k))
theorem Kv(w g o u v)(h:AtT w g o u):AtT (put8 w g o v) g o v:=by
 unfold put8;refine⟨?_,?_,?_,?_,?_,?_,?_,?_⟩
 ·rw[eG _ _ _ _ _ _ xaa,eG _ _ _ _ _ _ xaa,eG _ _ _ _ _ _ xaa,eG _ _ _ _ _ _ xaa,eG _ _ _ _ _ _ xaa,eG _ _ _ _ _ _ xaa,eG _ _ _ _ _ _ xaa];exact fc _ _ _ _ _ (h.c0)
 ·rw[eG _ _ _ _ _ _ xaa,eG _ _ _ _ _ _ xaa,eG _ _ _ _ _ _ xaa,eG _ _ _ _ _ _ xaa,eG _ _ _ _ _ _ xaa,eG _ _ _ _ _ _ xaa];exact fc _ _ _ _ _ (by rw[eG _ _ _ _ _ _ xaa];exact h.c1)
 ·rw[eG _ _ _ _ _ _ xaa,eG _ _ _ _ _ _ xaa,eG _ _ _ _ _ _ xaa,eG _ _ _ _ _ _ xaa,eG _ _ _ _ _ _ xaa];exact fc _ _ _ _ _ (by rw[eG _ _ _ _ _ _ xaa,eG _ _ _ _ _ _ xaa];exact h.c2)
 ·rw[eG _ _ _ _ _ _ xaa,eG _ _ _ _ _ _ xaa,eG _ _ _ _ _ _ xaa,eG _ _ _ _ _ _ xaa];exact fc _ _ _ _ _ (by rw[eG _ _ _ _ _ _ xaa,eG _ _ _ _ _ _ xaa,eG _ _ _ _ _ _ xaa];exact h.c3)
 ·rw[eG _ _ _ _ _ _ xaa,eG _ _ _ _ _ _ xaa,eG _ _ _ _ _ _ xaa];exact fc _ _ _ _ _ (by rw[eG _ _ _ _ _ _ xaa,eG _ _ _ _ _ _ xaa,eG _ _ _ _ _ _ xaa,eG _ _ _ _ _ _ xaa];exact h.c4)
 ·rw[eG _ _ _ _ _ _ xaa,eG _ _ _ _ _ _ xaa];exact fc _ _ _ _ _ (by rw[eG _ _ _ _ _ _ xaa,eG _ _ _ _ _ _ xaa,eG _ _ _ _ _ _ xaa,eG _ _ _ _ _ _ xaa,eG _ _ _ _ _ _ xaa];exact h.c5)
 ·rw[eG _ _ _ _ _ _ xaa];exact fc _ _ _ _ _ (by rw[eG _ _ _ _ _ _ xaa,eG _ _ _ _ _ _ xaa,eG _ _ _ _ _ _ xaa,eG _ _ _ _ _ _ xaa,eG _ _ _ _ _ _ xaa,eG _ _ _ _ _ _ xaa];exact h.c6)
 exact fc _ _ _ _ _ (by rw[eG _ _ _ _ _ _ xaa,eG _ _ _ _ _ _ xaa,eG _ _ _ _ _ _ xaa,eG _ _ _ _ _ _ xaa,eG _ _ _ _ _ _ xaa,eG _ _ _ _ _ _ xaa,eG _ _ _ _ _ _ xaa];exact h.c7)
theorem DE(w g o v):Kept g (g+1) w (put8 w g o v):=by
 unfold put8;have k:∀(w:World) (a:Nat) (u:Value),Kept g (g+1) w (w.setCell ⟨g,a,none⟩ u):=λw a u=>eU w ⟨g,a,none⟩ u yac;exact((((((((k _ _ _).trans (k _ _ _)).trans (k _ _ _)).trans (k _ _ _)).trans (k _ _ _)).trans (k _ _ _)).trans (k _ _ _)).trans (k _ _ _))
theorem AtT.keep{o v}(a:AtT w g o v)(az:g<w.heap.size)(k:Kept l h w O)(aN:g<l\/h<=g\/h<=l):AtT O g o v:=by
 have e:∀b,_:=λb=>k.cell (p:=⟨g,b,none⟩) az (by show ¬(l<=g/\g<h);omega);exact⟨jn e a.c0,jn e a.c1,jn e a.c2,jn e a.c3,jn e a.c4,jn e a.c5,jn e a.c6,jn e a.c7⟩
structure TS(w:World)(lo hi:Nat)(a:Option Addr)(n:Nat)(vs:List Ste):Prop where
 len:vs.length=n
 lt:∀v∈vs,v.k<18446744073709551616
 at_:n=0\/∃g off,a=some ⟨g,off,none⟩/\lo<=g/\g<hi/\g<w.heap.size/\∀k,k<n->AtT w g (off+k*8) (vs.getD k Ste.zero)
theorem TS.keep{a n vs}(f:TS w lo hi a n vs)(k:Kept l h w O)(aN:hi<=l\/h<=lo\/h<=l):TS O lo hi a n vs:=
 ⟨f.len,f.lt,by
  rcases f.at_ with aj|⟨g,an,e,B,N,h3,bp⟩
  ·exact .inl aj
  ·exact .inr ⟨g,an,e,B,N,yak h3 k.size,λj hj=>(bp j hj).keep h3 k xaa⟩⟩
theorem TS.mono{a n vs}(f:TS w lo hi a n vs)(B:lo'<=lo)(N:hi<=hi'):TS w lo' hi' a n vs:=
 ⟨f.len,f.lt,by
  rcases f.at_ with aj|⟨g,an,e,ax,aF,bv,cF⟩
  ·exact .inl aj
  ·exact .inr ⟨g,an,e,by omega,by omega,bv,cF⟩⟩
structure Spn where
 off:Int
 len:Int
def Spn.cells(v:Spn):List Value:=[.int .i64 v.off,.int .i64 v.len]
def Spn.zero:Spn:=⟨0,0⟩
abbrev Spn.agg(v:Spn):Value:=.agg #[.int .i64 v.off,.int .i64 v.len]
abbrev Spn.box(v:Spn):Obj:=.cells #[.int .i64 v.off,.int .i64 v.len] 56
structure AtP(w:World)(g o:Nat)(v:Spn):Prop where
 c0:w.cell? ⟨g,o,none⟩=some (.int .i64 v.off)
 c1:w.cell? ⟨g,o+1,none⟩=some (.int .i64 v.len)
theorem sj:(prog.info? 56).map (λi=>(i.zero,i.size,i.bytes))=some (some (.agg #[ih 0,ih 0]),2,16):=by kernel_rfl
theorem AtP.keep{o v}(a:AtP w g o v)(az:g<w.heap.size)(k:Kept l h w O)(aN:g<l\/h<=g\/h<=l):AtP O g o v:=by
 have e:∀b,_:=λb=>k.cell (p:=⟨g,b,none⟩) az (by show ¬(l<=g/\g<h);omega);exact⟨jn e a.c0,jn e a.c1⟩
structure PS(w:World)(lo hi:Nat)(a:Option Addr)(n:Nat)(vs:List Spn):Prop where
 len:vs.length=n
 at_:n=0\/∃g off,a=some ⟨g,off,none⟩/\lo<=g/\g<hi/\g<w.heap.size/\∀k,k<n->AtP w g (off+k*2) (vs.getD k Spn.zero)
theorem PS.keep{a n vs}(f:PS w lo hi a n vs)(k:Kept l h w O)(aN:hi<=l\/h<=lo\/h<=l):PS O lo hi a n vs:=
 ⟨f.len,by
  rcases f.at_ with aj|⟨g,an,e,B,N,h3,bp⟩
  ·exact .inl aj
  ·exact .inr ⟨g,an,e,B,N,yak h3 k.size,λj hj=>(bp j hj).keep h3 k xaa⟩⟩
theorem PS.mono{a n vs}(f:PS w lo hi a n vs)(B:lo'<=lo)(N:hi<=hi'):PS w lo' hi' a n vs:=
 ⟨f.len,by
  rcases f.at_ with aj|⟨g,an,e,ax,aF,bv,cF⟩
  ·exact .inl aj
  ·exact .inr ⟨g,an,e,by omega,by omega,bv,cF⟩⟩
abbrev jh(a1:Option Addr)(n1 c1:Nat)(a2:Option Addr)(n2 c2:Nat)(a3:Option Addr)(n3 c3:Nat)(pk:Int):Value:=.agg #[.slice a1 n1 c1,.slice a2 n2 c2,.slice a3 n3 c3,.int .i64 pk]
abbrev im(a1:Option Addr)(n1 c1:Nat)(a2:Option Addr)(n2 c2:Nat)(a3:Option Addr)(n3 c3:Nat)(pk:Int):Obj:=.cells #[.slice a1 n1 c1,.slice a2 n2 c2,.slice a3 n3 c3,.int .i64 pk] 28
abbrev gK:Obj:=.cells #[.slice none 0 0,.slice none 0 0,.slice none 0 0,.int .i64 0] 28
structure CS(w:World)(a1:Option Addr)(n1:Nat)(a2:Option Addr)(n2:Nat)(a3:Option Addr)(n3:Nat)(ins:List Int)(ss:List Ste)(os:List Spn):Prop where
 i:IS w 0 w.heap.size a1 n1 ins
 s:TS w 0 w.heap.size a2 n2 ss
 o:PS w 0 w.heap.size a3 n3 os
theorem CS.keep{a1 K a3 Y ae aa ins af ba}(f:CS w a1 Y K ae a3 aa ins af ba)(k:Kept 0 0 w O):CS O a1 Y K ae a3 aa ins af ba:=
 ⟨(f.i.keep k yaa).mono yad k.size,(f.s.keep k yaa).mono yad k.size,(f.o.keep k yaa).mono yad k.size⟩
abbrev setC4(w:World)(g:Nat)(x y z u:Value):World:=(((w.setCell ⟨g,0,none⟩ x).setCell ⟨g,1,none⟩ y).setCell ⟨g,2,none⟩ z).setCell ⟨g,3,none⟩ u
theorem fR(w g x y z u):Kept g (g+1) w (setC4 w g x y z u):=by
 have k:∀(w:World) (a:Nat) (u:Value),Kept g (g+1) w (w.setCell ⟨g,a,none⟩ u):=λw a u=>eU w ⟨g,a,none⟩ u yac;exact((k _ _ _).trans (k _ _ _)).trans (k _ _ _) |>.trans (k _ _ _)
structure C0(W:World)(p:Nat)(b0 b1 b2 b3:Value):Prop where
 sz:p<W.heap.size
 q0:W.cell? ⟨p,0,none⟩=some b0
 q1:W.cell? ⟨p,1,none⟩=some b1
 q2:W.cell? ⟨p,2,none⟩=some b2
 q3:W.cell? ⟨p,3,none⟩=some b3
theorem C0.keepR{W}(t:C0 W p bE R a6 U)(k:Kept l h W F)(aN:p<l\/h<=p\/h<=l):C0 F p bE R a6 U:=by
 have e:∀o,_:=λo=>k.cell (p:=⟨p,o,none⟩) t.sz (by show ¬(l<=p/\p<h);omega);exact⟨yak t.sz k.size,jn e t.q0,jn e t.q1,jn e t.q2,jn e t.q3⟩
theorem C0.keep{W}(t:C0 W p bE R a6 U)(k:Kept 0 0 W F):C0 F p bE R a6 U:=t.keepR k yaa
theorem jt(w:World)(bE R a6 U):C0 (w.alloc (.cells #[bE,R,a6,U] 28)) w.heap.size bE R a6 U:=by
 refine⟨?_,?_,?_,?_,?_⟩;all_goals first|(go_simp;done)|(simp;done)
end
section
variable{p:Nat->Bool}{vs:List Vl}{outs ps:List Int}{n i j:Nat}
def GX(v:Vl)(i:Nat):Bool:=(List.range (cnt v.op)).any λk=>fld v k==(i:Int)
def jI(vs:List Vl)(i:Nat):Nat->Int
 |0=>-1
 |m+1=>if GX (vs.getD (i+1+m) i0) i=true then ((i+1+m:Nat):Int)else jI vs i m
def ms(vs:List Vl)(outs:List Int)(i:Nat):Int:=if isO outs i=true then (vs.length:Int)else jI vs i (vs.length-(i+1))
def qx(vs:List Vl)(outs:List Int)(ps:List Int)(i:Nat)(n a:Int)(j:Nat):Bool:=decide ((i:Int)<=ms vs outs j)&&(decide (ps.getD j 0<a+n)&&decide (a<ps.getD j 0+(vs.getD j i0).len))
def j9(vs:List Vl)(outs:List Int)(ps:List Int)(i:Nat)(n a:Int):Bool:=(List.range i).all λj=>!qx vs outs ps i n a j
def qZ(vs:List Vl)(outs:List Int)(ps:List Int)(i:Nat):Int:=(((List.range 60000).find? λ(a:Nat)=>j9 vs outs ps i (vs.getD i i0).len (a:Int)).getD 0:Nat)
def ft(vs:List Vl)(outs:List Int):Nat->List Int
 |0=>[]
 |i+1=>ft vs outs i++[qZ vs outs (ft vs outs i) i]
theorem oA(vs outs):∀i,(ft vs outs i).length=i
 |0=>rfl
 |i+1=>by rw[ft,yal,oA vs outs i];rfl
theorem Kw(vs outs)(h:j<i):(ft vs outs (i+1)).getD j 0=(ft vs outs i).getD j 0:=by
 rw[ft,yai,yat (by rw[oA];exact h),<-yai]
theorem Kx(vs outs i):(ft vs outs (i+1)).getD i 0=qZ vs outs (ft vs outs i) i:=by
 rw[ft,yai,yas (by rw[oA];exact yad),oA,Nat.sub_self];rfl
theorem A2:∀{I a:Nat},a<I->p a=true->(∀b,b<a->p b=false)->(List.range I).find? p=some a:=λ{I a} B N h3=>by
 rw[List.find?_eq_some_iff_getElem]
 refine⟨N,a,by simpa using B,by simp,λj hj=>?_⟩
 simp[h3 j hj]
theorem zE{a:Nat}(h:j9 vs outs ps i (vs.getD i i0).len (a:Int)=true)(aD:∀b:Nat,b<a->j9 vs outs ps i (vs.getD i i0).len (b:Int)=false)(aB:a<60000):qZ vs outs ps i=(a:Int):=by
 unfold qZ;rw[A2 (p:=λ(a:Nat)=>j9 vs outs ps i (vs.getD i i0).len (a:Int)) aB h aD];rfl
def iE(vs:List Vl):Nat->Int
 |0=>0
 |i+1=>iE vs i+(vs.getD i i0).len
theorem ig(ag:∀k,k<n->1<=(vs.getD k i0).len)(gv:i<=j)(hj:j<=n):iE vs i<=iE vs j:=by
 induction j with
 |zero=>obtain rfl:i=0:=xaa
        exact Int.le_refl _
 |succ j Z=>
  by_cases e:i=j+1
  ·subst e;exact Int.le_refl _
  have B:=Z xaa xaa;have N:=ag j xaa;rw[iE];omega
theorem kQ(vs):∀i,i<=vs.length->iE vs i=eY (vs.take i)
 |0,_=>by simp[iE,eY]
 |i+1,h=>by rw[iE,kQ vs i xaa,nT xaa]
theorem qy:∀{I:Nat},p I=true->∃a,a<=I/\p a=true/\∀b,b<a->p b=false:=λ{I} h=>by
 induction I using Nat.strongRecOn with
 |ind I Z=>
  by_cases hb:∃b,b<I/\p b=true
  ·obtain⟨b,B,N⟩:=hb
   obtain⟨a,h3,bp,bU⟩:=Z b B N
   exact⟨a,by omega,bp,bU⟩
  ·refine⟨I,yad,h,λb aY=>?_⟩
   cases aA:p b
   ·rfl
   ·exact absurd ⟨b,aY,aA⟩ hb
theorem qz(ag:∀k,k<n->1<=(vs.getD k i0).len)(aw:iE vs n<=50000):∀i,i<=n->∀j,j<i->0<=(ft vs outs i).getD j 0/\(ft vs outs i).getD j 0+(vs.getD j i0).len<=iE vs (j+1):=λi=>by
 induction i with
 |zero=>intro _ j hj;omega
 |succ i Z=>
  intro hi j hj
  by_cases e:j<i
  ·rw[Kw _ _ e];exact Z xaa j e
  ·obtain rfl:j=i:=xaa
   have g:=Z xaa
   have eu:0<=iE vs j:=by have:=ig ag (i:=0) (j:=j) xaa xaa;simpa[iE] using this
   have d0:=ig ag (i:=j) (j:=n) xaa xaa
   obtain⟨S,a5⟩:=Int.eq_ofNat_of_zero_le eu
   have f:j9 vs outs (ft vs outs j) j (vs.getD j i0).len (S:Int)=true:=by
    unfold j9;rw[List.all_eq_true];intro q am;have l:=List.mem_range.1 am;have B:=g q l;have N:=ig ag (i:=q+1) (j:=j) xaa xaa;unfold qx;rw[yay (show ¬((S:Int)<(ft vs outs j).getD q 0+(vs.getD q i0).len) by omega)]
    simp
   obtain⟨a,G,cd,d⟩:=qy (p:=λ(a:Nat)=>j9 vs outs (ft vs outs j) j (vs.getD j i0).len (a:Int)) f
   rw[Kx,zE cd d xaa,iE]
   omega
theorem GY(ag:∀k,k<n->1<=(vs.getD k i0).len)(aw:iE vs n<=50000)(hi:i<n):∃a:Nat,qZ vs outs (ft vs outs i) i=a/\(a:Int)<=iE vs i/\j9 vs outs (ft vs outs i) i (vs.getD i i0).len (a:Int)=true/\∀b:Nat,b<a->j9 vs outs (ft vs outs i) i (vs.getD i i0).len (b:Int)=false:=by
 have g:=qz (outs:=outs) ag aw i xaa;have eu:0<=iE vs i:=by have:=ig ag (i:=0) (j:=i) xaa xaa;simpa[iE] using this
 have d0:=ig ag (i:=i) (j:=n) xaa xaa;obtain⟨S,a5⟩:=Int.eq_ofNat_of_zero_le eu
 have f:j9 vs outs (ft vs outs i) i (vs.getD i i0).len (S:Int)=true:=by
  unfold j9;rw[List.all_eq_true];intro q am;have l:=List.mem_range.1 am;have B:=g q l;have N:=ig ag (i:=q+1) (j:=i) xaa xaa;unfold qx;rw[yay (show ¬((S:Int)<(ft vs outs i).getD q 0+(vs.getD q i0).len) by omega)];simp
 obtain⟨a,G,cd,d⟩:=qy (p:=λ(a:Nat)=>j9 vs outs (ft vs outs i) i (vs.getD i i0).len (a:Int)) f;exact⟨a,zE cd d xaa,by omega,cd,d⟩
theorem GZ{n a b}(hj:j<i)(d:qx vs outs ps i n a j=true)(hb:j9 vs outs ps i n b=true)(e:a<=b):ps.getD j 0+(vs.getD j i0).len<=b:=by
 unfold j9 at hb;have h:=List.all_eq_true.1 hb j (List.mem_range.2 hj);unfold qx at d h;simp only[Bool.and_eq_true,decide_eq_true_eq]at d;obtain⟨B,N,h3⟩:=d;by_cases c:b<ps.getD j 0+(vs.getD j i0).len
 ·rw[decide_eq_true B,decide_eq_true (show ps.getD j 0<b+n by omega),decide_eq_true c]at h;simp at h
 omega
end
section
attribute[local go_sem] eE eC eB
variable{F:World}{i I k j m g cap:Nat}{u v:Value}{ps K:List Int}
theorem DF(v)(i q:Nat):((List.range (q+1)).any λk=>fld v k==(i:Int))=(((List.range q).any λk=>fld v k==(i:Int))||(fld v q==(i:Int))):=by
 rw[List.range_succ,List.any_append];simp
theorem zG(vs i m):jI vs i (m+1)=if GX (vs.getD (i+1+m) i0) i=true then ((i+1+m:Nat):Int)else jI vs i m:=rfl
theorem cI.qco(h:Zp:=by
 have aO:V _:=f.keep bF;have HK:V _:=bF;clear f af cp cw cJ aL aR cI d1 bF;go_enter func92,ntmps92;go_wp2_with fail;generalize w.alloc (fB R Y c1 a6 ae c2 U aa c3)=aK at ao aO HK⊢;go_loopw [5,6] (λx y W=>∃m:Nat,i+1+m<=ae/\x=ih (jI vs i m)/\y=ih ((i:Int)+1+m)/\V (Kept 0 0 aK W)) (λ_ y _=>(ae:Int).toNat-(intOf y).toNat)
 case atStart=>exact⟨0,by omega,rfl,by go_num,Kept.refl _ _ _⟩
 case round=>
  obtain⟨m,aD,rfl,rfl,aS⟩:=hrel;obtain⟨_,aU,ax,aF⟩:=ao.o.keep aS.o;by_cases aY:i+1+m<ae
  ·have S:=rW (b2.o (i+1+m) aY);have cx:V _:=yy (vs.getD (i+1+m) i0).op S.1 S.2
   have bP:V (∀F,Kept 0 0 aK F->∃g an,a6=some ⟨g,an,none⟩/\g<F.heap.size/\At F g (an+(i+1+m)*6) (vs.getD (i+1+m) i0)):=λF l=>by
    obtain⟨g,an,e,aV,_,_,bB⟩:=(aO.o.keep l).v.at_idx aY
    exact⟨g,an,e,aV,bB⟩
   have aG:V _:=zG vs i m;unfold GX at aG;generalize ci:vs.getD (i+1+m) i0=v at cx bP aG S;have aZ:=io v.op;clear ci;obtain⟨j,hj⟩:∃j:Nat,j=i+1+m:=⟨_,rfl⟩
   have Q:(i:Int)+1+m=j:=xaa;rw[Q];rw[<-hj]at bP aG aY;generalize bK:jI vs i m=y at aG;have G:V (j=i+1+m/\(i:Int)+1+m=j):=⟨hj,Q⟩
   clear bK hj Q aD S;go_wp2_with fail;go_loopw [5,7] (λx z W=>∃q:Nat,q<=cnt v.op/\z=ih q/\x=ih (if ((List.range q).any λk=>fld v k==(i:Int))=true then (j:Int)else y)/\V (Kept 0 0 aK W)) (λ_ z _=>cnt v.op-(intOf z).toNat)
   case atStart=>exact⟨0,yae,rfl,by simp,aS⟩
   case round=>
    obtain⟨q,am,rfl,rfl,d⟩:=hrel;clear aS aU ax aF;obtain⟨_,aU,ax,aF⟩:=ao.o.keep d.o;obtain⟨g,an,rfl,az,a8,aJ,aP,bw,b3,cf⟩:=bP.o _ d.o;by_cases B:q<cnt v.op
    ·have bI:V _:=λW=>mW W v q xaa;have a9:V _:=DF v i q;generalize bY:((List.range q).any λk=>fld v k==(i:Int))=E at a9⊢;obtain⟨bC,aH⟩:∃bC,bC=(if E=true then (j:Int)else y):=⟨_,rfl⟩
     rw[<-aH];have bA:V _:=aH;clear bY aH;go_wp2_with (first|(go_at_call 38;refine yaj (cx.o _) ?_;rintro e a7 ⟨rfl,rfl⟩)|fail);refine yaj (bI.o _) ?_;rintro e a7 ⟨rfl,C⟩;have R2:V _:=d.o.trans C;cases t:(fld v q==(i:Int))
     ·have bG:¬fld v q=(i:Int):=by simpa using t
      rw[t,Bool.or_false]at a9;generalize fld v q=z at bG;clear t C;go_wp2_with fail;go_roundw;exact⟨q+1,by omega,by go_num,by rw[a9.o,bA.o],R2⟩;simp[intOf];omega
     have bG:fld v q=(i:Int):=by simpa using t
     rw[t,Bool.or_true]at a9;rw[bG];clear t C bG;go_wp2_with fail;go_roundw;exact⟨q+1,by omega,by go_num,jL a9.o,R2⟩;simp[intOf];omega
    obtain rfl:q=cnt v.op:=xaa;have H:V _:=aG.o;generalize (if ((List.range (cnt v.op)).any λk=>fld v k==(i:Int))=true then (j:Int)else y)=z at H⊢;go_wp2_with (first|(go_at_call 38;refine yaj (cx.o _) ?_;rintro e a7 ⟨rfl,rfl⟩)|fail);go_roundw
    case rel=>exact⟨m+1,i4 G.o,by rw[H.o],by have:=G.o;congr 1;omega,d⟩
    case measure=>have:=G.o;simp[intOf];omega
  have ay:i+1+m=ae:=xaa
  have H:V (ms vs outs i=if isO outs i=true then (ae:Int)else jI vs i m):=by
   show _=_;unfold ms;rw[HL.o,show ae-(i+1)=m by omega]
  generalize jI vs i m=z at H;have bu:V _:=EU wr R a6 U Y c1 ae c2 aa c3 i _ _ outs (aO.o.keep aS.o).o xaa;go_wp2_with fail;refine yaj bu.o ?_;rintro e a7 ⟨rfl,C⟩;obtain⟨_,bo,ar,aQ⟩:=(ao.o.keep aS.o).keep C;have R2:V _:=(HK.o.trans aS.o).trans C;clear bu C aU ax aF;cases t:isO outs i
  ·rw[t,ip xac]at H;go_wp2_with fail;go_ret;exact⟨jL H.o,R2.o⟩
  rw[t,iv rfl]at H;go_wp2_with fail;go_ret;exact⟨jL H.o,R2.o⟩):Zp:=h
open cI in
theorem DH(w R a6 U Y c1 ae c2 aa c3 i ins vs outs)(f:GS w R Y a6 ae U aa ins vs outs)(af:okG ins vs outs=true)(hi:i<ae):
  Calls prog 92 #[eX R Y c1 a6 ae c2 U aa c3,ih (i:Nat)] w λe O=>e=.returned (ih (ms vs outs i))/\Kept 0 0 w O:=by
 obtain⟨⟨cp,cw,cJ⟩,_,aL,aR,_⟩:=jZ af;have cI:=f.v.len;have d1:=f.o.len;have ah:ae<=2000:=xaa;have c8:aa<=50:=xaa;have b2:V (∀j,j<ae->_):=λj hj=>aL j xaa;have HL:V _:=cI;exact qcn
structure P2(W:World)(B:Nat)(u v:Value)(k m:Nat)(ps ls:List Int):Prop where
 pu:W.ownsRow B 3 1 u k (ps.map (Value.int .i64))
 pv:W.ownsRow B 3 1 v m (ls.map (Value.int .i64))
 ne:∀g,u.ownBlock=some g->v.ownBlock≠some g
theorem P2.keep{W}(f:P2 W I u v k m ps K)(q:Kept 0 0 W F):P2 F I u v k m ps K:=
 ⟨eN f.pu q,eN f.pv q,f.ne⟩
theorem P2.start(W I):P2 W I (.slice none 0 0) (.slice none 0 0) 0 0 [] []:=
 ⟨yaw _ _ _ _,yaw _ _ _ _,λg h=>by simp[Value.ownBlock]at h⟩
theorem xJ{W:World}(f:W.ownsRow I 3 1 u k (ps.map (Value.int .i64)))(hj:j<k):∃g cap,u=ia g k cap/\I<=g/\g<W.heap.size/\W.cell? ⟨g,j,none⟩=some (ih (ps.getD j 0)):=by
 obtain⟨g,cap,rfl,B,N⟩:=f.form xaa;have ag:ps.length=k:=by have:=f.1;rw[List.length_map]at this;omega
 rcases (nV f ag).at_ with z|⟨aI,an,e,aV,bg,bq,bB⟩
 ·omega
 cases e;refine⟨g,cap,rfl,B,N,?_⟩;have:=bB j hj;rw[Nat.zero_add]at this;exact this
theorem P2.putU{W x o}(f:P2 W I u v k m ps K)(aR:F.ownsRow I 3 1 (ia g (k+1) cap) (k+1) (ps.map (Value.int .i64)++[ih x]))(az:(W.alloc o).grownBy F u.ownBlock)(aB:u.ownBlock=some g\/g=W.heap.size+1):P2 F I (ia g (k+1) cap) v (k+1) m (ps++[x]) K:=by
 refine⟨by rw[List.map_append];exact aR,?_,?_⟩
 ·refine(f.pv.alloc o).kept az ?_;cases aL:v.ownBlock with
  |none=>exact .inl rfl
  |some b=>exact .inr (λc=>f.ne b c.symm aL)
 exact xhb
theorem P2.putV{W x o}(f:P2 W I u v k m ps K)(aR:F.ownsRow I 3 1 (ia g (m+1) cap) (m+1) (K.map (Value.int .i64)++[ih x]))(az:(W.alloc o).grownBy F v.ownBlock)(aB:v.ownBlock=some g\/g=W.heap.size+1):P2 F I u (ia g (m+1) cap) k (m+1) ps (K++[x]):=by
 refine⟨?_,by rw[List.map_append];exact aR,?_⟩
 ·refine(f.pu.alloc o).kept az ?_;cases aL:u.ownBlock with
  |none=>exact .inl rfl
  |some b=>exact .inr (λc=>f.ne b aL c.symm)
 exact xhc
def zH(vs:List Vl)(outs:List Int)(k:Nat):List Int:=(List.range k).map (ms vs outs)
theorem Ky(vs outs)(h:j<k):(zH vs outs k).getD j 0=ms vs outs j:=by
 unfold zH;exact xgb
theorem DI(vs outs k):zH vs outs (k+1)=zH vs outs k++[ms vs outs k]:=by
 unfold zH;rw[List.range_succ,List.map_append];rfl
theorem tV(vs i):∀m,-1<=jI vs i m/\jI vs i m<=(i:Int)+m
 |0=>by rw[jI];omega
 |m+1=>by
  have:=tV vs i m
  rw[jI]
  split<;>omega
theorem DJ(vs outs)(h:i<vs.length):-1<=ms vs outs i/\ms vs outs i<=vs.length:=by
 have:=tV vs i (vs.length-(i+1));unfold ms;split<;>omega
def zJ:Value->Nat
 |.bool true=>1
 |_=>0
theorem DK{vs outs n a}(h:∀q,q<i->qx vs outs ps i n a q=false):j9 vs outs ps i n a=true:=by
 unfold j9;rw[List.all_eq_true];intro q am;rw[h q (List.mem_range.1 am)];rfl
theorem cJ.qco(h:Zp:=by
 have aO:V _:=f.keep bF;have HK:V _:=bF;clear f af cp cw cJ aL cI cM bF;go_enter func69,ntmps69;go_wp2_with fail;generalize w.alloc (fB R Y c1 a6 ae c2 U aa c3)=aK at ao aO HK⊢;go_loopw [3,4,5] (λbR v' x W=>∃(k:Nat) (u v:Value),u=bR/\v=v'/\k<=ae/\x=ih k/\V (P2 W aK.heap.size u v k k (ft vs outs k) (zH vs outs k))/\V (Kept 0 0 aK W)) (λ_ _ x _=>ae-(intOf x).toNat)
 case atStart=>exact⟨0,_,_,rfl,rfl,yae,rfl,P2.start _ _,Kept.refl _ _ _⟩
 case round=>
  obtain⟨i,u,v,rfl,rfl,hi,rfl,hP,aS⟩:=hrel;obtain⟨_,aU,ax,aF⟩:=ao.o.keep aS.o;by_cases aY:i<ae
  ·obtain⟨p,aA,bA,N,bN⟩:=GY (outs:=outs) (λk J=>(b2.o k J).1) aG.o aY;have bG:V _:=qz (outs:=outs) (λk J=>(b2.o k J).1) aG.o i xaa;have bK:V (∀j,j<=ae->_):=λj hj=>Int.le_trans (ig (n:=ae) (λk J=>(b2.o k J).1) hj yad) aG.o;have au:p<=50000:=by have:=bK.o i xaa;omega
   have ab:V (ft vs outs (i+1)=ft vs outs i++[(p:Int)]):=by show _=_;rw[ft,aA]
   obtain⟨aZ,bL⟩:∃aZ,aZ=(vs.getD i i0).len:=⟨_,rfl⟩
   have ap:=b2.o i aY;rw[<-bL]at N bN ap;have ai:V _:=N;have aQ:V _:=bN;obtain⟨g,an,rfl,az,_,_,a8,aJ,aP,bw,b3,cf⟩:=(aO.o.keep aS.o).v.at_idx aY;rw[<-bL]at aJ;clear aA bA N bN bL;go_wp2_with fail;clear a8 aJ aP bw b3 cf az aU ax aF;go_loopw [7,8] (λx y W=>∃(a:Nat) (b:Bool),x=ih a/\y=.bool b/\a<=p/\V (b=false->j9 vs outs (ft vs outs i) i aZ (a:Int)=true)/\V (P2 W aK.heap.size u v i i (ft vs outs i) (zH vs outs i))/\V (Kept 0 0 aK W)) (λx y _=>2*(60000-(intOf x).toNat)+zJ y)
   case atStart=>exact⟨0,true,rfl,rfl,yae,(λh=>by cases h),hP,aS⟩
   case round=>
    obtain⟨a,b,rfl,rfl,aB,C,cj,d⟩:=hrel;clear hP aS;cases b
    ·obtain rfl:a=p:=by
      rcases Nat.lt_or_ge a p with c|c
      ·have:=aQ.o a c;rw[C.o rfl]at this;cases this
      omega
     clear C aQ;have b9:=d.o.size;go_wp2_with (first|(at_builtin;refine wpList_append_lies _ rfl _ _ 24 rfl aK.heap.size 3 cd (ih 0) 1 8 underlying24 dv dc ez eP rfl xab _ _ _ rfl (cj.o.pu.alloc _) ⟨wr.heap.size,0,none⟩ 1 1 [ih a] rfl rfl ?c1 ?c2 xab ?c3 ?c4 ?c5 _ rfl ?_)|fail)
     case c1=>exact cell_one_new _ _ _
     case c2=>intro u G;simp at G;subst G;rfl
     case c3=>unfold maxLen;omega
     case c4=>omega
     case c5=>simp;omega
     intro g9 cap9 a7 Z bp br _;have R1:V _:=P2.putU cj.o Z bp br;have R2:V _:=lg (base:=aK.heap.size) bp (λi hi=>(eF cj.o.pu hi).1) (d.o.trans (eA 0 0 wr _)) yad;rw[<-ab.o]at R1;clear Z bp br cj d b9 ab;obtain⟨_,aU,ax,aF⟩:=ao.o.keep R2.o;have P:V _:=DH a7 R (some ⟨g,an,none⟩) U Y c1 ae c2 aa c3 i ins vs outs (aO.o.keep R2.o) cV.o aY;go_wp2_with fail;refine yaj P.o ?_;rintro e cA ⟨rfl,d1⟩;have aj:V _:=R1.o.keep d1;have bZ:V _:=R2.o.trans d1;have b9:=bZ.o.size;have bM:V _:=DI vs outs i;clear R1 R2 d1 P aU ax aF;generalize ms vs outs i=al at bM;go_wp2_with (first|(at_builtin;refine wpList_append_lies _ rfl _ _ 24 rfl aK.heap.size 3 cd (ih 0) 1 8 underlying24 dv dc ez eP rfl xab _ _ _ rfl (aj.o.pv.alloc _) ⟨cA.heap.size,0,none⟩ 1 1 [ih al] rfl rfl ?c1 ?c2 xab ?c3 ?c4 ?c5 _ rfl ?_)|fail)
     case c1=>exact cell_one_new _ _ _
     case c2=>intro u G;simp at G;subst G;rfl
     case c3=>unfold maxLen;omega
     case c4=>omega
     case c5=>simp;omega
     intro bJ cU cP ag e7 ad _;have R1:V _:=P2.putV aj.o ag e7 ad;have R2:V _:=lg (base:=aK.heap.size) e7 (λi hi=>(eF aj.o.pv hi).1) (bZ.o.trans (eA 0 0 cA _)) yad;rw[<-bM.o]at R1;clear ag e7 ad aj bZ b9 bM;go_wp2_with fail;go_roundw;exact⟨i+1,_,_,rfl,rfl,by omega,by go_num,R1,R2⟩;simp[intOf];omega
    go_wp2_with fail;go_loopw [7,8,9] (λx y z W=>∃(ak:Nat) (B:Bool) (j:Nat),x=ih ak/\y=.bool B/\z=ih j/\j<=i/\ak<=p/\V (B=false->ak=a/\∀q,q<j->qx vs outs (ft vs outs i) i aZ (a:Int) q=false)/\V (B=true->a<ak)/\V (P2 W aK.heap.size u v i i (ft vs outs i) (zH vs outs i))/\V (Kept 0 0 aK W)) (λ_ _ z _=>i-(intOf z).toNat)
    case atStart=>exact⟨a,false,0,rfl,rfl,rfl,yae,aB,λ_=>⟨rfl,λq am=>by omega⟩,(λh=>by cases h),cj,d⟩
    case round=>
     obtain⟨ak,B,j,rfl,rfl,rfl,hj,t,bl,bh,ds,r⟩:=hrel;clear cj d C;by_cases Q:j<i
     ·obtain⟨_,aU,ax,aF⟩:=ao.o.keep r.o;obtain⟨aI,cR,a2,az,_,_,a8,aJ,aP,bw,b3,cf⟩:=(aO.o.keep r.o).v.at_idx (i:=j) xaa;cases a2;obtain⟨aq,gb,rfl,_,ar,cQ⟩:=xJ ds.o.pu Q;obtain⟨b5,cv,rfl,_,cr,ck⟩:=xJ ds.o.pv Q;rw[Ky _ _ Q]at ck;have bj:=bG.o j Q;have ch:=bK.o (j+1) xaa;have S:=b2.o j xaa;have bx:=DJ vs outs (i:=j) (jx aV.o);rw[aV.o]at bx;have l:V (qx vs outs (ft vs outs i) i aZ (ak:Int) j=true->_):=λh=>GZ Q h ai.o xaa;have aT:V (qx vs outs (ft vs outs i) i aZ (ak:Int) j=(decide ((i:Int)<=ms vs outs j)&&(decide ((ft vs outs i).getD j 0<(ak:Int)+aZ)&&decide ((ak:Int)<(ft vs outs i).getD j 0+(vs.getD j i0).len)))):=rfl
      have bu:V (qx vs outs (ft vs outs i) i aZ (ak:Int) j=false->B=false->ak=a/\∀q,q<j+1->qx vs outs (ft vs outs i) i aZ (a:Int) q=false):=λh hb=>by
       obtain⟨e,am⟩:=bl.o hb
       subst e
       refine⟨rfl,λq bC=>?_⟩
       by_cases c:q<j
       ·exact am q c
       ·obtain rfl:q=j:=xaa
        exact h
      generalize ms vs outs j=L at ck bx aT;generalize (ft vs outs i).getD j 0=X at cQ bj aT l;generalize (vs.getD j i0).len=M at aJ bj S aT l;by_cases aW:(i:Int)<=L
      ·by_cases bd:X<(ak:Int)+aZ
       ·by_cases cu:(ak:Int)<X+M
        ·have aH:=l.o (by rw[aT.o,decide_eq_true aW,decide_eq_true bd,decide_eq_true cu];rfl)
         have H:V (a<(X+M).toNat):=by
          show _<_;cases B
          ·have:=(bl.o rfl).1;omega
          have:=bh.o rfl;omega
         clear aT l bu bl bh;go_wp2_with fail;go_region
         all_goals
          go_wp2
          go_roundw;exact⟨(X+M).toNat,true,j+1,by congr 1;omega,rfl,by go_num,by omega,by omega,(λh=>by cases h),(λ_=>H.o),ds.o.keep (eD _),Kept.drew r.o⟩;simp[intOf];omega
        have H:V _:=bu.o (by rw[aT.o,yay cu];simp);exact xcr
       have H:V _:=bu.o (by rw[aT.o,yay bd];simp);exact xcr
      have H:V _:=bu.o (by rw[aT.o,yay aW];rfl);exact xcr
     obtain rfl:j=i:=xaa
     have H:V _:=λh=>by
      obtain⟨e,am⟩:=bl.o h
      subst e
      exact DK am
     have R2:V (2*(60000-ak)+zJ (.bool B)<2*(60000-a)+1):=by
      show _<_;cases B
      ·have:=(bl.o rfl).1;simp[zJ];omega
      have:=bh.o rfl;simp[zJ];omega
     clear bl bh;go_wp2;go_roundw
     case rel=>exact⟨ak,B,rfl,rfl,t,H,ds,r⟩
     case measure=>simpa[intOf,zJ] using R2.o
  obtain rfl:i=ae:=xaa;obtain⟨a,cap,rfl⟩:=iH hP.o.pu;have H:V _:=nV hP.o.pu (oA _ _ _);have R2:V _:=HK.o.trans aS.o;clear hP aS;go_wp2;go_ret;exact⟨a,cap,rfl,H.o,R2.o⟩):Zp:=h
open cJ in
theorem G1(w R a6 U Y c1 ae c2 aa c3 ins vs outs)(f:GS w R Y a6 ae U aa ins vs outs)(af:okG ins vs outs=true):
  Calls prog 69 #[eX R Y c1 a6 ae c2 U aa c3] w λe O=>∃a cap,e=.returned (.slice a ae cap)/\IS O 0 O.heap.size a ae (ft vs outs ae)/\Kept 0 0 w O:=by
 obtain⟨cd,dv,dc,ez,eP⟩:=info_parts qd;obtain⟨⟨cp,cw,cJ⟩,_,aL,_,cM⟩:=jZ af;have cI:=f.v.len;have ah:ae<=2000:=xaa;have cV:V _:=af;have b2:V (∀j,j<ae->_):=λj hj=>fV (aL j xaa)
 have aG:V (iE vs ae<=50000):=by
  exact xiz
 have aV:V _:=cI;exact qcn
end
section
def jO(vs:List Vl)(ps:List Int)(i:Nat):Ste:=
 ⟨(vs.getD i i0).op,(vs.getD i i0).len,
  if 0<cnt (vs.getD i i0).op then (vs.getD (vs.getD i i0).a.toNat i0).len else 0,
  ps.getD i 0,
  if 0<cnt (vs.getD i i0).op then ps.getD (vs.getD i i0).a.toNat 0 else (vs.getD i i0).a,
  if 1<cnt (vs.getD i i0).op then ps.getD (vs.getD i i0).b.toNat 0 else (vs.getD i i0).b,
  if 2<cnt (vs.getD i i0).op then ps.getD (vs.getD i i0).c.toNat 0 else (vs.getD i i0).c,
  if (vs.getD i i0).op=1 then (vs.getD i i0).k else 0⟩
def gj(vs:List Vl)(ps:List Int)(k:Nat):List Ste:=(List.range k).map (jO vs ps)
theorem zK(vs ps k):gj vs ps (k+1)=gj vs ps k++[jO vs ps k]:=by
 unfold gj;rw[List.range_succ,List.map_append];rfl
theorem jT(vs ps k):(gj vs ps k).length=k:=by simp[gj]
def fH(vs:List Vl)(ps:List Int):Nat->Int
 |0=>0
 |k+1=>if fH vs ps k<ps.getD k 0+(vs.getD k i0).len then ps.getD k 0+(vs.getD k i0).len else fH vs ps k
def jJ(vs:List Vl)(ps:List Int)(o:Int):Spn:=⟨ps.getD o.toNat 0,(vs.getD o.toNat i0).len⟩
end
section
attribute[local go_sem] eE eC eB
variable{F a7 aM aK:World}{base p n C S d I Vaa k m z g cap:Nat}{bE R a6 bC U u v:Value}{b:Option Addr}{s:Ste}{ay:Int}{af:List Ste}{ba:List Spn}{o:Obj}
def gL:List Ste->List Value
 |[]=>[]
 |v::r=>v.cells++gL r
theorem mZ(a b):gL (a++b)=gL a++gL b:=by
 induction a with
 |nil=>rfl
 |cons x r Z=>simp[gL,Z]
theorem q7(v):gL [v]=v.cells:=by simp[gL]
theorem tW:∀(a:List Ste) (k j:Nat),k<a.length->j<8->(gL a)[k*8+j]? =(a.getD k Ste.zero).cells[j]?
 |[],k,j,J,_=>by simp at J
 |x::r,0,j,_,hj=>by
  have:(x::r).getD 0 Ste.zero=x:=rfl
  rw[this,gL,yat (by simp only[Ste.cells,yaq,List.length_nil];omega),Nat.zero_mul,Nat.zero_add]
 |x::r,k+1,j,J,hj=>by
  have:(x::r).getD (k+1) Ste.zero=r.getD k Ste.zero:=rfl
  rw[this,gL,yas (by simp only[Ste.cells,yaq,List.length_nil];omega)]
  have e:(k+1)*8+j-x.cells.length=k*8+j:=by simp only[Ste.cells,yaq,List.length_nil];omega
  rw[e]
  exact tW r k j (by simpa using J) hj
def gZ:List Spn->List Value
 |[]=>[]
 |v::r=>v.cells++gZ r
theorem lG(a b):gZ (a++b)=gZ a++gZ b:=by
 induction a with
 |nil=>rfl
 |cons x r Z=>simp[gZ,Z]
theorem oR(v):gZ [v]=v.cells:=by simp[gZ]
theorem tX:∀(a:List Spn) (k j:Nat),k<a.length->j<2->(gZ a)[k*2+j]? =(a.getD k Spn.zero).cells[j]?
 |[],k,j,J,_=>by simp at J
 |x::r,0,j,_,hj=>by
  have:(x::r).getD 0 Spn.zero=x:=rfl
  rw[this,gZ,yat (by simp only[Spn.cells,yaq,List.length_nil];omega),Nat.zero_mul,Nat.zero_add]
 |x::r,k+1,j,J,hj=>by
  have:(x::r).getD (k+1) Spn.zero=r.getD k Spn.zero:=rfl
  rw[this,gZ,yas (by simp only[Spn.cells,yaq,List.length_nil];omega)]
  have e:(k+1)*2+j-x.cells.length=k*2+j:=by simp only[Spn.cells,yaq,List.length_nil];omega
  rw[e]
  exact tX r k j (by simpa using J) hj
structure KB(W:World)(p:Nat)(b0 b1 b2 b3:Value):Prop where
 sz:p<W.heap.size
 q0:W.cell? ⟨p,0,none⟩=some b0
 q1:W.cell? ⟨p,1,none⟩=some b1
 q2:W.cell? ⟨p,2,none⟩=some b2
 q3:W.cell? ⟨p,3,none⟩=some b3
 f0:W.frozen? ⟨p,0,none⟩=false
 f1:W.frozen? ⟨p,1,none⟩=false
 f2:W.frozen? ⟨p,2,none⟩=false
 f3:W.frozen? ⟨p,3,none⟩=false
theorem KB.keepC{W S}(t:KB W p bE R a6 U)(k:Chg S W F)(aN:¬S p):KB F p bE R a6 U:=by
 have e:∀o,F.cell? ⟨p,o,none⟩=W.cell? ⟨p,o,none⟩:=λo=>World.cell?_of_block (k.block p t.sz aN);have f:∀o,F.frozen? ⟨p,o,none⟩=W.frozen? ⟨p,o,none⟩:=λo=>World.frozen?_of_block (k.block p t.sz aN);exact⟨yak t.sz k.size,jn e t.q0,jn e t.q1,jn e t.q2,jn e t.q3,jn f t.f0,jn f t.f1,jn f t.f2,jn f t.f3⟩
theorem KB.keep{W}(t:KB W p bE R a6 U)(k:Kept 0 0 W F):KB F p bE R a6 U:=t.keepC (S:=λ_=>False) k.chg (λh=>h)
theorem KB.put1{W}(t:KB W p bE R a6 U)(v):KB (W.setCell ⟨p,1,none⟩ v) p bE v a6 U:=
 ⟨by simpa using t.sz,by rw[eG _ _ _ _ _ _ (.inr xaa)];exact t.q0,fc _ _ _ _ _ t.q1,by rw[eG _ _ _ _ _ _ (.inr xaa)];exact t.q2,by rw[eG _ _ _ _ _ _ (.inr xaa)];exact t.q3,by simp[t.f0],by simp[t.f1],by simp[t.f2],by simp[t.f3]⟩
theorem KB.put2{W}(t:KB W p bE R a6 U)(v):KB (W.setCell ⟨p,2,none⟩ v) p bE R v U:=
 ⟨by simpa using t.sz,by rw[eG _ _ _ _ _ _ (.inr xaa)];exact t.q0,by rw[eG _ _ _ _ _ _ (.inr xaa)];exact t.q1,fc _ _ _ _ _ t.q2,by rw[eG _ _ _ _ _ _ (.inr xaa)];exact t.q3,by simp[t.f0],by simp[t.f1],by simp[t.f2],by simp[t.f3]⟩
theorem KB.put3{W}(t:KB W p bE R a6 U)(v):KB (W.setCell ⟨p,3,none⟩ v) p bE R a6 v:=
 ⟨by simpa using t.sz,by rw[eG _ _ _ _ _ _ (.inr xaa)];exact t.q0,by rw[eG _ _ _ _ _ _ (.inr xaa)];exact t.q1,by rw[eG _ _ _ _ _ _ (.inr xaa)];exact t.q2,fc _ _ _ _ _ t.q3,by simp[t.f0],by simp[t.f1],by simp[t.f2],by simp[t.f3]⟩
structure LP(W w1:World)(C B:Nat)(x0 u v:Value)(k m:Nat)(pk:Int)(ss:List Ste)(os:List Spn):Prop where
 bx:KB W C x0 u v (.int .i64 pk)
 pu:W.ownsRow B 43 8 u k (gL ss)
 pv:W.ownsRow B 56 2 v m (gZ os)
 ne:∀g,u.ownBlock=some g->v.ownBlock≠some g
 ch:Chg (λb=>b=C\/B<=b) w1 W
 bz:B<=W.heap.size
theorem LP.keep{W}(f:LP W aK C I bC u v k m ay af ba)(q:Kept 0 0 W F):LP F aK C I bC u v k m ay af ba:=
 ⟨f.bx.keep q,eN f.pu q,eN f.pv q,f.ne,Chg.trans f.ch q.chg,yao f.bz q.size⟩
theorem LP.mid{W}(f:LP W aK C I bC u v k m ay af ba)(bn:C<I)(az:((W.alloc o).drewN z).grownBy a7 u.ownBlock):KB a7 C bC u v (ih ay):=by
 have bj:=(eA 0 0 W o).trans (eJ 0 0 _ z);exact(f.bx.keep bj).keepC (fA az) (λc=>i4 ((eF f.pu c).1))
theorem LP.putU{W}(f:LP W aK C I bC u v k m ay af ba)(bn:C<I)(aR:a7.ownsRow I 43 8 (ia g (k+1) cap) (k+1) (gL af++s.cells))(az:((W.alloc o).drewN z).grownBy a7 u.ownBlock)(aB:u.ownBlock=some g\/g=W.heap.size+1):
  LP (a7.setCell ⟨C,1,none⟩ (ia g (k+1) cap)) aK C I bC (ia g (k+1) cap) v (k+1) m ay (af++[s]) ba:=by
 have bj:=(eA 0 0 W o).trans (eJ 0 0 _ z);have bv:=fA az;have X:∀b,u.ownBlock=some b->_:=λb hb=>(eF f.pu hb).1;have h:=eU (lo:=C) (hi:=C+1) a7 ⟨C,1,none⟩ (ia g (k+1) cap) yac;have cc:=(eF aR (k:=g) rfl).1;refine⟨(LP.mid f bn az).put1 _,?_,?_,?_,?_,?_⟩
 ·rw[mZ,q7];exact eH aR (λc=>by simp[Value.ownBlock]at c;omega)
 ·refine eH (eQ (eN f.pv bj) bv ?_) (λc=>i4 ((eF f.pv c).1));intro b hb c;exact f.ne b c hb
 ·exact xhb
 ·exact Chg.trans f.ch (Chg.trans bj.chg (Chg.trans (bv.mono λb _ c=>.inr (X b c)) (h.chg1 (.inl rfl))))
 exact xji
theorem LP.midV{W}(f:LP W aK C I bC u v k m ay af ba)(bn:C<I)(az:((W.alloc o).drewN z).grownBy a7 v.ownBlock):KB a7 C bC u v (ih ay):=by
 have bj:=(eA 0 0 W o).trans (eJ 0 0 _ z);exact(f.bx.keep bj).keepC (fA az) (λc=>i4 ((eF f.pv c).1))
theorem LP.putV{W s}(f:LP W aK C I bC u v k m ay af ba)(bn:C<I)(aR:a7.ownsRow I 56 2 (ia g (m+1) cap) (m+1) (gZ ba++s.cells))(az:((W.alloc o).drewN z).grownBy a7 v.ownBlock)(aB:v.ownBlock=some g\/g=W.heap.size+1):
  LP (a7.setCell ⟨C,2,none⟩ (ia g (m+1) cap)) aK C I bC u (ia g (m+1) cap) k (m+1) ay af (ba++[s]):=by
 have bj:=(eA 0 0 W o).trans (eJ 0 0 _ z);have bv:=fA az;have X:∀b,v.ownBlock=some b->_:=λb hb=>(eF f.pv hb).1;have h:=eU (lo:=C) (hi:=C+1) a7 ⟨C,2,none⟩ (ia g (m+1) cap) yac;have cc:=(eF aR (k:=g) rfl).1;refine⟨(LP.midV f bn az).put2 _,?_,?_,?_,?_,?_⟩
 ·refine eH (eQ (eN f.pu bj) bv ?_) (λc=>i4 ((eF f.pu c).1));intro b hb c;exact f.ne b hb c
 ·rw[lG,oR];exact eH aR (λc=>by simp[Value.ownBlock]at c;omega)
 ·exact xhc
 ·exact Chg.trans f.ch (Chg.trans bj.chg (Chg.trans (bv.mono λb _ c=>.inr (X b c)) (h.chg1 (.inl rfl))))
 exact xji
theorem LP.putP{W}(f:LP W aK C I bC u v k m ay af ba)(bn:C<I)(x):LP (W.setCell ⟨C,3,none⟩ (ih x)) aK C I bC u v k m x af ba:=by
 have h:=eU (lo:=C) (hi:=C+1) W ⟨C,3,none⟩ (ih x) yac;exact⟨f.bx.put3 _,eH f.pu (λc=>i4 ((eF f.pu c).1)),eH f.pv (λc=>i4 ((eF f.pv c).1)),f.ne,Chg.trans f.ch (h.chg1 (.inl rfl)),yao f.bz h.size⟩
theorem rz(w:World)(v:Ste)(m):∀j u,v.cells[j]? =some u->((w.alloc v.box).drewN m).cell? ((⟨w.heap.size,0,none⟩:Addr).add j)=some u:=
 World.news_of_block (w:=w.alloc v.box) (t:=43) (fr:=(0,0)) (cs:=#[ih v.op,ih v.len,ih v.n,ih v.dst,ih v.a,ih v.b,ih v.c,.float .f64 v.k]) (nU w _)
theorem zL(v:Ste):∀u∈v.cells,u.oneCell'=true:=by
 intro u G;simp[Ste.cells]at G;rcases G with rfl|rfl|rfl|rfl|rfl|rfl|rfl|rfl<;>rfl
theorem BZ(w:World)(v:Spn)(m):∀j u,v.cells[j]? =some u->((w.alloc v.box).drewN m).cell? ((⟨w.heap.size,0,none⟩:Addr).add j)=some u:=
 World.news_of_block (w:=w.alloc v.box) (t:=56) (fr:=(0,0)) (cs:=#[ih v.off,ih v.len]) (nU w _)
theorem Kz(v:Spn):∀u∈v.cells,u.oneCell'=true:=by
 intro u G;simp[Spn.cells]at G;rcases G with rfl|rfl<;>rfl
theorem KA(w:World)(v):At (w.alloc (iK v.op v.len v.a v.b v.c v.k)) w.heap.size 0 v:=by
 constructor;all_goals first|(go_simp;done)|(simp;done)
theorem KC(w:World)(v):AtT (w.alloc v.box) w.heap.size 0 v:=by
 constructor;all_goals first|(go_simp;done)|(simp;done)
theorem iN(w g bE R a6 U)(c0:w.cell? ⟨g,0,none⟩=some bE)(c1:w.cell? ⟨g,1,none⟩=some R)(c2:w.cell? ⟨g,2,none⟩=some a6)(c3:w.cell? ⟨g,3,none⟩=some U)(x y z u):
  (setC4 w g x y z u).cell? ⟨g,0,none⟩=some x/\(setC4 w g x y z u).cell? ⟨g,1,none⟩=some y/\(setC4 w g x y z u).cell? ⟨g,2,none⟩=some z/\(setC4 w g x y z u).cell? ⟨g,3,none⟩=some u:=by
 unfold setC4;refine⟨?_,?_,?_,?_⟩
 ·rw[eG _ _ _ _ _ _ (.inr xaa),eG _ _ _ _ _ _ (.inr xaa),eG _ _ _ _ _ _ (.inr xaa)];exact fc _ _ _ _ _ c0
 ·rw[eG _ _ _ _ _ _ (.inr xaa),eG _ _ _ _ _ _ (.inr xaa)];exact fc _ _ _ _ _ (by rw[eG _ _ _ _ _ _ (.inr xaa)];exact c1)
 ·rw[eG _ _ _ _ _ _ (.inr xaa)];exact fc _ _ _ _ _ (by rw[eG _ _ _ _ _ _ (.inr xaa),eG _ _ _ _ _ _ (.inr xaa)];exact c2)
 exact fc _ _ _ _ _ (by rw[eG _ _ _ _ _ _ (.inr xaa),eG _ _ _ _ _ _ (.inr xaa),eG _ _ _ _ _ _ (.inr xaa)];exact c3)
theorem kz(w:World):KB (w.alloc gK) w.heap.size (.slice none 0 0) (.slice none 0 0) (.slice none 0 0) (ih 0):=by
 constructor;all_goals first|(go_simp;done)|(simp;done)
theorem N6(w:World)(x):KB (w.alloc (.cells #[x,.slice none 0 0,.slice none 0 0,ih 0] 28)) w.heap.size x (.slice none 0 0) (.slice none 0 0) (ih 0):=by
 constructor;all_goals first|(go_simp;done)|(simp;done)
theorem G2(w x):LP (w.alloc (.cells #[x,.slice none 0 0,.slice none 0 0,ih 0] 28)) w w.heap.size (w.heap.size+1) x (.slice none 0 0) (.slice none 0 0) 0 0 0 [] []:=
 ⟨N6 w x,yaw _ _ _ _,yaw _ _ _ _,λg h=>by simp[Value.ownBlock]at h,(eA 0 0 w _).chg,by simp⟩
theorem AtT.put2{W}(t:AtT W S 0 s)(x):AtT (W.setCell ⟨S,2,none⟩ (ih x)) S 0 ⟨s.op,s.len,x,s.dst,s.a,s.b,s.c,s.k⟩:=
 ⟨by rw[eG _ _ _ _ _ _ (.inr xaa)];exact t.c0,by rw[eG _ _ _ _ _ _ (.inr xaa)];exact t.c1,fc _ _ _ _ _ t.c2,by rw[eG _ _ _ _ _ _ (.inr xaa)];exact t.c3,by rw[eG _ _ _ _ _ _ (.inr xaa)];exact t.c4,by rw[eG _ _ _ _ _ _ (.inr xaa)];exact t.c5,by rw[eG _ _ _ _ _ _ (.inr xaa)];exact t.c6,by rw[eG _ _ _ _ _ _ (.inr xaa)];exact t.c7⟩
theorem AtT.setC4{W}(t:AtT W S 0 s)(x):AtT (W.setCell ⟨S,4,none⟩ (ih x)) S 0 ⟨s.op,s.len,s.n,s.dst,x,s.b,s.c,s.k⟩:=
 ⟨by rw[eG _ _ _ _ _ _ (.inr xaa)];exact t.c0,by rw[eG _ _ _ _ _ _ (.inr xaa)];exact t.c1,by rw[eG _ _ _ _ _ _ (.inr xaa)];exact t.c2,by rw[eG _ _ _ _ _ _ (.inr xaa)];exact t.c3,fc _ _ _ _ _ t.c4,by rw[eG _ _ _ _ _ _ (.inr xaa)];exact t.c5,by rw[eG _ _ _ _ _ _ (.inr xaa)];exact t.c6,by rw[eG _ _ _ _ _ _ (.inr xaa)];exact t.c7⟩
theorem AtT.put5{W}(t:AtT W S 0 s)(x):AtT (W.setCell ⟨S,5,none⟩ (ih x)) S 0 ⟨s.op,s.len,s.n,s.dst,s.a,x,s.c,s.k⟩:=
 ⟨by rw[eG _ _ _ _ _ _ (.inr xaa)];exact t.c0,by rw[eG _ _ _ _ _ _ (.inr xaa)];exact t.c1,by rw[eG _ _ _ _ _ _ (.inr xaa)];exact t.c2,by rw[eG _ _ _ _ _ _ (.inr xaa)];exact t.c3,by rw[eG _ _ _ _ _ _ (.inr xaa)];exact t.c4,fc _ _ _ _ _ t.c5,by rw[eG _ _ _ _ _ _ (.inr xaa)];exact t.c6,by rw[eG _ _ _ _ _ _ (.inr xaa)];exact t.c7⟩
theorem AtT.put6{W}(t:AtT W S 0 s)(x):AtT (W.setCell ⟨S,6,none⟩ (ih x)) S 0 ⟨s.op,s.len,s.n,s.dst,s.a,s.b,x,s.k⟩:=
 ⟨by rw[eG _ _ _ _ _ _ (.inr xaa)];exact t.c0,by rw[eG _ _ _ _ _ _ (.inr xaa)];exact t.c1,by rw[eG _ _ _ _ _ _ (.inr xaa)];exact t.c2,by rw[eG _ _ _ _ _ _ (.inr xaa)];exact t.c3,by rw[eG _ _ _ _ _ _ (.inr xaa)];exact t.c4,by rw[eG _ _ _ _ _ _ (.inr xaa)];exact t.c5,fc _ _ _ _ _ t.c6,by rw[eG _ _ _ _ _ _ (.inr xaa)];exact t.c7⟩
theorem AtT.put7{W}(t:AtT W S 0 s)(x):AtT (W.setCell ⟨S,7,none⟩ (.float .f64 x)) S 0 ⟨s.op,s.len,s.n,s.dst,s.a,s.b,s.c,x⟩:=
 ⟨by rw[eG _ _ _ _ _ _ (.inr xaa)];exact t.c0,by rw[eG _ _ _ _ _ _ (.inr xaa)];exact t.c1,by rw[eG _ _ _ _ _ _ (.inr xaa)];exact t.c2,by rw[eG _ _ _ _ _ _ (.inr xaa)];exact t.c3,by rw[eG _ _ _ _ _ _ (.inr xaa)];exact t.c4,by rw[eG _ _ _ _ _ _ (.inr xaa)];exact t.c5,by rw[eG _ _ _ _ _ _ (.inr xaa)];exact t.c6,fc _ _ _ _ _ t.c7⟩
structure RD(W w3:World)(C B Vaa S:Nat)(x0 u:Value)(k:Nat)(pk:Int)(ss:List Ste)(v:Vl)(s:Ste):Prop where
 lp:LP W w3 C B x0 u (.slice none 0 0) k 0 pk ss []
 va:At W Vaa 0 v
 ta:AtT W S 0 s
 tf:∀o,W.frozen? ⟨S,o,none⟩=false
 lt:S<W.heap.size
 vs:Vaa<S
 bv:B<=Vaa
 cb:C<B
 un:∀g,u.ownBlock=some g->g<Vaa
theorem RD.start{W v}(au:LP W aM C I bC u (.slice none 0 0) k 0 ay af [])(l:At W Vaa 0 v)(ai:W.heap.size=Vaa+1)(ec:I<=Vaa)(bw:C<I)(w:∀g,u.ownBlock=some g->g<Vaa)(s):RD (W.alloc s.box) aM C I Vaa (Vaa+1) bC u k ay af v s:=by
 have q:=eA 0 0 W s.box;have e:∀g o,g<W.heap.size->_:=λg o h=>q.cell (p:=⟨g,o,none⟩) h xaa;obtain⟨c0,c1,c2,c3,c4,c5⟩:=l;have aA:=KC W s;rw[ai]at aA;refine⟨au.keep q,⟨?_,?_,?_,?_,?_,?_⟩,aA,λo=>by rw[<-ai];simp,by simp;omega,by omega,ec,bw,w⟩;all_goals (rw[e _ _ xaa];assumption)
theorem RD.set{W v s'}(f:RD W aM C I Vaa S bC u k ay af v s){o x}(aB:AtT (W.setCell ⟨S,o,none⟩ x) S 0 s'):RD (W.setCell ⟨S,o,none⟩ x) aM C I Vaa S bC u k ay af v s':=by
 have h:=eU (lo:=S) (hi:=S+1) W ⟨S,o,none⟩ x yac;have B:=f.vs;have N:=f.bv;have h3:=f.cb;have bp:=f.lt;have e:∀q,(W.setCell ⟨S,o,none⟩ x).cell? ⟨Vaa,q,none⟩=W.cell? ⟨Vaa,q,none⟩:=λq=>eG _ _ _ _ _ _ (.inl xaa);refine⟨⟨f.lp.bx.keepC (h.chg1 (S:=λb=>b=S) rfl) xaa,eH f.lp.pu (λc=>i4 (f.un _ c)),eH f.lp.pv (λc=>by simp[Value.ownBlock]at c),f.lp.ne,Chg.trans f.lp.ch (h.chg1 (.inr xaa)),yao f.lp.bz h.size⟩,?_,aB,λc9=>by simp[f.tf],by simpa using f.lt,B,N,h3,f.un⟩;obtain⟨c0,c1,c2,c3,c4,c5⟩:=f.va;exact⟨jn e c0,jn e c1,jn e c2,jn e c3,jn e c4,jn e c5⟩
theorem RD.keep{W v}(f:RD W aM C I Vaa S bC u k ay af v s)(q:Kept 0 0 W F):RD F aM C I Vaa S bC u k ay af v s:=by
 have e:∀g o,g<W.heap.size->_:=λg o h=>q.cell (p:=⟨g,o,none⟩) h xaa;have B:=f.vs;have bp:=f.lt;obtain⟨c0,c1,c2,c3,c4,c5⟩:=f.va;obtain⟨bT,aX,bk,ab,r,l,bV,X⟩:=f.ta;refine⟨f.lp.keep q,⟨?_,?_,?_,?_,?_,?_⟩,⟨?_,?_,?_,?_,?_,?_,?_,?_⟩,λo=>by rw[q.frozen (p:=⟨S,o,none⟩) f.lt xaa];exact f.tf o,yak f.lt q.size,B,f.bv,f.cb,f.un⟩;all_goals (rw[e _ _ xaa];assumption)
theorem RD.kept{W v}(f:RD W aM C I Vaa S bC u k ay af v s)(bn:aM.heap.size<=C):Kept 0 0 aM W:=
 Chg.kept (Kept.refl 0 0 aM) f.lp.ch (λb hb=>by have:=f.cb;rcases hb with h|h<;>omega)
theorem KD{W xs}(h:W.ownsRow base 43 8 (.slice b n d) n (gL xs))(ag:xs.length=n)(J:∀v∈xs,v.k<18446744073709551616):TS W base W.heap.size b n xs:=by
 refine⟨ag,J,?_⟩;rcases h.2 with⟨_,c⟩|⟨g,cap,ao,e,R,a6,U,_,ct,b2⟩
 ·exact .inl c
 injection e with ax aF bv
 have az:g<W.heap.size:=by
  exact xdp
 refine .inr ⟨g,0,ax,R,az,az,λk J=>?_⟩
 have ai:∀j,j<8->W.cell? ⟨g,0+k*8+j,none⟩=(xs.getD k Ste.zero).cells[j]?:=λj hj=>by
  rw[cell_of_row W g _ ao _ _ a6,<-Array.getElem?_toList]
  have:(ao.toList.take (n*8))[k*8+j]? =(gL xs)[k*8+j]?:=by rw[b2]
  rw[List.getElem?_take_of_lt xaa,tW _ _ _ xaa hj]at this
  rw[Nat.zero_add]
  exact this
 exact⟨ai 0 xaa,ai 1 xaa,ai 2 xaa,ai 3 xaa,ai 4 xaa,ai 5 xaa,ai 6 xaa,ai 7 xaa⟩
theorem KE{W xs}(h:W.ownsRow base 56 2 (.slice b n d) n (gZ xs))(ag:xs.length=n):PS W base W.heap.size b n xs:=by
 refine⟨ag,?_⟩;rcases h.2 with⟨_,c⟩|⟨g,cap,ao,e,R,a6,U,_,ct,b2⟩
 ·exact .inl c
 injection e with ax aF bv
 have az:g<W.heap.size:=by
  exact xdp
 refine .inr ⟨g,0,ax,R,az,az,λk J=>?_⟩
 have ai:∀j,j<2->W.cell? ⟨g,0+k*2+j,none⟩=(xs.getD k Spn.zero).cells[j]?:=λj hj=>by
  rw[cell_of_row W g _ ao _ _ a6,<-Array.getElem?_toList]
  have:(ao.toList.take (n*2))[k*2+j]? =(gZ xs)[k*2+j]?:=by rw[b2]
  rw[List.getElem?_take_of_lt xaa,tX _ _ _ xaa hj]at this
  rw[Nat.zero_add]
  exact this
 exact⟨ai 0 xaa,ai 1 xaa⟩
theorem KF{W xs}(h:W.ownsRow base 3 1 (.slice b n d) n (xs.map (Value.int .i64)))(ag:xs.length=n):IS W base W.heap.size b n xs:=by
 rcases AB h ag with aj|⟨g,e,hb,q⟩
 ·exact⟨ag,.inl aj⟩
 exact⟨ag,.inr ⟨g,0,e,hb,q.lt,q.lt,λk J=>by rw[Nat.zero_add];exact q.at_ k J⟩⟩
end
section
variable{s:Ste}{I n j:Nat}{bf bb bc:Value}{ins:List Int}{af:List Ste}{ba:List Spn}
structure OCd(W:World)(B:Nat)(v1 v2 v3:Value)(ins:List Int)(ss:List Ste)(os:List Spn):Prop where
 r1:W.ownsRow B 3 1 v1 ins.length (ins.map (Value.int .i64))
 r2:W.ownsRow B 43 8 v2 ss.length (gL ss)
 r3:W.ownsRow B 56 2 v3 os.length (gZ os)
 d12:∀g,v1.ownBlock=some g->v2.ownBlock≠some g
 d13:∀g,v1.ownBlock=some g->v3.ownBlock≠some g
 d23:∀g,v2.ownBlock=some g->v3.ownBlock≠some g
 kl:∀v∈ss,v.k<18446744073709551616
theorem OCd.keepC{W F S}(f:OCd W I bf bb bc ins af ba)(k:Chg S W F)(aN:∀g,I<=g->g<W.heap.size->¬S g):OCd F I bf bb bc ins af ba:=
 ⟨eQ f.r1 k (λg az=>aN g (eF f.r1 az).1 (eF f.r1 az).2),eQ f.r2 k (λg az=>aN g (eF f.r2 az).1 (eF f.r2 az).2),eQ f.r3 k (λg az=>aN g (eF f.r3 az).1 (eF f.r3 az).2),f.d12,f.d13,f.d23,f.kl⟩
theorem OCd.keep{W F}(f:OCd W I bf bb bc ins af ba)(k:Kept 0 0 W F):OCd F I bf bb bc ins af ba:=f.keepC (S:=λ_=>False) k.chg (λ_ _ _ h=>h)
theorem OCd.mono{W b}(f:OCd W I bf bb bc ins af ba)(h:b<=I):OCd W b bf bb bc ins af ba:=
 ⟨gi f.r1 h,gi f.r2 h,gi f.r3 h,f.d12,f.d13,f.d23,f.kl⟩
theorem OCd.cs{W a1 K a3 Y ae aa c1 c2 c3}(f:OCd W I (.slice a1 Y c1) (.slice K ae c2) (.slice a3 aa c3) ins af ba)(B:ins.length=Y)(N:af.length=ae)(h3:ba.length=aa):CS W a1 Y K ae a3 aa ins af ba:=by
 subst B N h3;exact⟨(KF f.r1 rfl).mono yae yad,(KD f.r2 rfl f.kl).mono yae yad,(KE f.r3 rfl).mono yae yad⟩
theorem vu:∀(af:List Ste) (j q:Nat) (x:Value) (s':Ste),j<af.length->q<8->s'.cells=(af.getD j Ste.zero).cells.set q x->gL (af.set j s')=(gL af).set (j*8+q) x
 |u::r,0,q,x,s',_,am,aL=>by
  have G:u.cells.length=8:=rfl
  rw[List.set_cons_zero,gL,gL,Nat.zero_mul,Nat.zero_add,List.set_append_left _ _ (jn G am)]
  exact congrArg (· ++gL r) aL
 |u::r,j+1,q,x,s',hj,am,aL=>by
  have G:u.cells.length=8:=rfl
  rw[List.set_cons_succ,gL,gL,List.set_append_right _ _ (jx G),G,show(j+1)*8+q-8=j*8+q by omega,vu r j q x _ (by simpa using hj) am aL]
theorem vw:∀(ba:List Spn) (j q:Nat) (x:Value) (s':Spn),j<ba.length->q<2->s'.cells=(ba.getD j Spn.zero).cells.set q x->gZ (ba.set j s')=(gZ ba).set (j*2+q) x
 |u::r,0,q,x,s',_,am,aL=>by
  have G:u.cells.length=2:=rfl
  rw[List.set_cons_zero,gZ,gZ,Nat.zero_mul,Nat.zero_add,List.set_append_left _ _ (jn G am)]
  exact congrArg (· ++gZ r) aL
 |u::r,j+1,q,x,s',hj,am,aL=>by
  have G:u.cells.length=2:=rfl
  rw[List.set_cons_succ,gZ,gZ,List.set_append_right _ _ (jx G),G,show(j+1)*2+q-2=j*2+q by omega,vw r j q x _ (by simpa using hj) am aL]
section
variable{W:World}{I g m c j q:Nat}{u1 u2 u3:Value}{ins:List Int}{af:List Ste}{ba:List Spn}{x:Value}
theorem OCd.setT(f:OCd W I u1 (ia g m c) u3 ins af ba){s'}(hj:j<af.length)(am:q<8)(aL:s'.cells=(af.getD j Ste.zero).cells.set q x)(J:s'.k<18446744073709551616):OCd (W.setCell ⟨g,j*8+q,none⟩ x) I u1 (ia g m c) u3 ins (af.set j s') ba:=by
 have e:=f4 f.r2;subst e;have N:=(f.r2.stored (j*8+q) x).1;refine⟨eH f.r1 λh=>f.d12 _ h rfl,?_,eH f.r3 λh=>f.d23 _ rfl h,f.d12,f.d13,f.d23,λu G=>?_⟩
 ·rw[List.length_set,vu _ j q x _ hj am aL];exact N
 rcases List.mem_or_eq_of_mem_set G with c|c
 ·exact f.kl u c
 rw[c];exact J
theorem OCd.setP(f:OCd W I u1 u2 (ia g m c) ins af ba){s'}(hj:j<ba.length)(am:q<2)(aL:s'.cells=(ba.getD j Spn.zero).cells.set q x):OCd (W.setCell ⟨g,j*2+q,none⟩ x) I u1 u2 (ia g m c) ins af (ba.set j s'):=by
 have e:=f4 f.r3;subst e;have N:=(f.r3.stored (j*2+q) x).1;refine⟨eH f.r1 λh=>f.d13 _ h rfl,eH f.r2 λh=>f.d23 _ h rfl,?_,f.d12,f.d13,f.d23,f.kl⟩;rw[List.length_set,vw _ j q x _ hj am aL];exact N
end
abbrev N7(W:World)(g o:Nat)(s:Ste):World:=(((((((W.setCell ⟨g,o,none⟩ (.int .i64 s.op)).setCell ⟨g,o+1,none⟩ (.int .i64 s.len)).setCell ⟨g,o+2,none⟩ (.int .i64 s.n)).setCell ⟨g,o+3,none⟩ (.int .i64 s.dst)).setCell ⟨g,o+4,none⟩ (.int .i64 s.a)).setCell ⟨g,o+5,none⟩ (.int .i64 s.b)).setCell ⟨g,o+6,none⟩ (.int .i64 s.c)).setCell ⟨g,o+7,none⟩ (.float .f64 s.k)
theorem jD(hj:j<af.length):(af.set j s).getD j Ste.zero=s:=by
 rw[yai,List.getElem?_set_self hj];rfl
theorem OCd.put8{W g m c u1 u3}(f:OCd W I u1 (ia g m c) u3 ins af ba)(hj:j<af.length)(s)(J:s.k<18446744073709551616):OCd (N7 W g (j*8) s) I u1 (ia g m c) u3 ins (af.set j s) ba:=by
 have b:(af.getD j Ste.zero).k<18446744073709551616:=f.kl _ (by rw[yai,yam hj];exact List.getElem_mem _);generalize aR:af.getD j Ste.zero=o at b;have ag:∀t,j<(af.set j t).length:=λt=>by rw[List.length_set];exact hj
 have aj:=f.setT (q:=0) (x:=ih s.op) (s':=⟨s.op,o.len,o.n,o.dst,o.a,o.b,o.c,o.k⟩) hj xaa (jL aR) b;have B:=aj.setT (j:=j) (q:=1) (x:=ih s.len) (s':=⟨s.op,s.len,o.n,o.dst,o.a,o.b,o.c,o.k⟩) (ag _) xaa (by rw[jD hj];rfl) b;rw[List.set_set]at B;have N:=B.setT (j:=j) (q:=2) (x:=ih s.n) (s':=⟨s.op,s.len,s.n,o.dst,o.a,o.b,o.c,o.k⟩) (ag _) xaa (by rw[jD hj];rfl) b;rw[List.set_set]at N;have h3:=N.setT (j:=j) (q:=3) (x:=ih s.dst) (s':=⟨s.op,s.len,s.n,s.dst,o.a,o.b,o.c,o.k⟩) (ag _) xaa (by rw[jD hj];rfl) b;rw[List.set_set]at h3;have bp:=h3.setT (j:=j) (q:=4) (x:=ih s.a) (s':=⟨s.op,s.len,s.n,s.dst,s.a,o.b,o.c,o.k⟩) (ag _) xaa (by rw[jD hj];rfl) b;rw[List.set_set]at bp;have bU:=bp.setT (j:=j) (q:=5) (x:=ih s.b) (s':=⟨s.op,s.len,s.n,s.dst,s.a,s.b,o.c,o.k⟩) (ag _) xaa (by rw[jD hj];rfl) b;rw[List.set_set]at bU;have bz:=bU.setT (j:=j) (q:=6) (x:=ih s.c) (s':=⟨s.op,s.len,s.n,s.dst,s.a,s.b,s.c,o.k⟩) (ag _) xaa (by rw[jD hj];rfl) b;rw[List.set_set]at bz;have al:=bz.setT (j:=j) (q:=7) (x:=.float .f64 s.k) (s':=s) (ag _) xaa (by rw[jD hj];rfl) J;rw[List.set_set]at al;exact al
def gM(s:Ste):Vl:=⟨s.op,s.len,s.a,s.b,s.c,s.k⟩
def fg(s:Ste):List Spn:=[⟨s.a,s.n⟩,⟨s.b,s.len⟩,⟨s.c,s.len⟩].take (cnt s.op)
def fN(ins:List Int)(s:Ste):Bool:=
 ((lenB s.len&&fL (gM s))&&!(decide (cnt s.op=0)&&s.n !=0))&&
   (if s.op=0 then gn s.a ins.length&&ins.getD s.a.toNat 0==s.len else eV s.op s.len s.c ([s.n,s.len,s.len].take (cnt s.op)))
def f8(ss:List Ste)(n:Nat)(c:Int):Bool:=(ss.take n).any λs=>decide (s.dst<=c/\c<s.dst+s.len)
def ke(off len peak:Int):Bool:=decide (0<=off/\off<=peak-len)
def iX(ss:List Ste)(n:Nat)(peak off len:Int):Bool:=ke off len peak&&(List.range len.toNat).all λj=>f8 ss n (off+(j:Nat))
def G3(s:Ste)(p:Spn):Bool:=decide (s.dst<p.off+p.len/\p.off<s.dst+s.len)
def jF(ss:List Ste)(i:Nat)(peak:Int)(s:Ste)(p:Spn):Bool:=iX ss i peak p.off p.len&&!G3 s p
def jG(ins:List Int)(ss:List Ste)(peak:Int)(i:Nat):Bool:=
 fN ins (ss.getD i Ste.zero)&&(ke (ss.getD i Ste.zero).dst (ss.getD i Ste.zero).len peak&&(fg (ss.getD i Ste.zero)).all (jF ss i peak (ss.getD i Ste.zero)))
def lr(ins:List Int)(n2 n3:Nat)(peak:Int):Bool:=(((decide (ins.length<=20)&&decide (n2<=2000))&&decide (n3<=50))&&ins.all lenB)&&decide (0<=peak/\peak<=50000)
def pe(ss:List Ste)(peak:Int)(p:Spn):Bool:=lenB p.len&&iX ss ss.length peak p.off p.len
def iJ(ins:List Int)(ss:List Ste)(os:List Spn)(peak:Int):Bool:=
 (lr ins ss.length os.length peak&&(List.range ss.length).all (jG ins ss peak))&&os.all (pe ss peak)
theorem mN(s):(fg s).length=cnt s.op:=by
 have:=io s.op;simp[fg];omega
theorem lX(h:fN ins s=true):1<=s.len/\s.len<=1000:=by
 unfold fN at h;simp only[Bool.and_eq_true]at h;have:=h.1.1.1;simpa[lenB] using this
theorem su(h:fN ins s=true):0<=s.op/\s.op<=13:=by
 by_cases c:0<=s.op/\s.op<=13
 ·exact c
 unfold fN at h;rw[ip xaa,qO c]at h;simp at h
theorem tY(h:fN ins s=true)(aj:s.op≠0):eV s.op s.len s.c ([s.n,s.len,s.len].take (cnt s.op))=true:=by
 unfold fN at h;rw[ip aj]at h;simp only[Bool.and_eq_true]at h;exact h.2
theorem xK(h:fN ins s=true)(ai:0<cnt s.op):1<=s.n/\s.n<=1000:=by
 have aj:s.op≠0:=λe=>by rw[e]at ai;exact absurd ai xab
 have ag:=lX h;have aw:=tY h aj;have aR:=su h;generalize s.op=op at ai aj aw aR;rcases (by omega:op=1\/op=2\/op=3\/op=4\/op=5\/op=6\/op=7\/op=8\/op=9\/op=10\/op=11\/op=12\/op=13) with rfl|rfl|rfl|rfl|rfl|rfl|rfl|rfl|rfl|rfl|rfl|rfl|rfl
 ·exact absurd ai xab
 all_goals (simp[eV,cnt,lenB]at aw;omega)
theorem tZ(h:fN ins s=true){p}(aA:p∈fg s):1<=p.len/\p.len<=1000:=by
 have ag:=lX h;by_cases ai:0<cnt s.op
 ·have hn:=xK h ai;have:=List.mem_of_mem_take aA;simp at this;rcases this with rfl|rfl|rfl
  ·exact hn
  ·exact ag
  exact ag
 have e:cnt s.op=0:=xaa;unfold fg at aA;rw[e]at aA;cases aA
theorem ua(af c):f8 af 0 c=false:=by simp[f8]
theorem ub(h:n<af.length)(c):f8 af (n+1) c=(f8 af n c||decide ((af.getD n Ste.zero).dst<=c/\c<(af.getD n Ste.zero).dst+(af.getD n Ste.zero).len)):=by
 unfold f8;rw[yau h,List.any_append];have:af.getD n Ste.zero=af[n]:=by rw[yai,yam h];rfl
 rw[this];simp
theorem A3{k}(J:k<n)(hn:n<=af.length){c}(h:(af.getD k Ste.zero).dst<=c/\c<(af.getD k Ste.zero).dst+(af.getD k Ste.zero).len):f8 af n c=true:=by
 unfold f8;rw[List.any_eq_true];have e:af.getD k Ste.zero=af[k]:=by rw[yai,yam xaa];rfl
 rw[e]at h;refine⟨af[k],?_,by simpa using h⟩;rw[List.mem_take_iff_getElem];exact⟨k,by omega,rfl⟩
theorem rA{d}(aA:d<=50000)(h:(List.range n).all (jG ins af d)=true):∀k,k<n->0<=(af.getD k Ste.zero).dst/\(af.getD k Ste.zero).dst<=50000/\1<=(af.getD k Ste.zero).len/\(af.getD k Ste.zero).len<=1000/\(af.getD k Ste.zero).dst+(af.getD k Ste.zero).len<=d:=λk J=>by
 rw[List.all_eq_true]at h
 have B:=h k (List.mem_range.2 J)
 unfold jG at B
 simp only[Bool.and_eq_true]at B
 have N:=lX B.1
 have h3:=of_decide_eq_true B.2.1
 omega
end
section
attribute[local go_sem] eE eC eB
variable{w:World}{ins:List Int}{s:Ste}{k g n:Nat}{b:Nat->Bool}
theorem qA(w)(p:Spn)(h:-1000000<=p.off+p.len/\p.off+p.len<=1000000):
  Calls prog 56 #[p.agg] w λe O=>e=.returned (ih (p.off+p.len))/\Kept 0 0 w O:=by
 have aA:IntKind.i64.wrap (p.off+p.len)=p.off+p.len:=by rw[IntKind.wrap_i64];omega
 go_enter func56,ntmps56;go_wp2;go_ret;exact⟨rfl,eA _ _ _ _⟩
theorem xL(w)(p:Spn)(c)(B:1<=p.len)(N:p.len<=1000)(h3:0<=c)(bp:c<=1000000):
  Calls prog 54 #[p.agg,ih c] w λe O=>e=.returned (.bool (ke p.off p.len c))/\Kept 0 0 w O:=by
 have aA:IntKind.i64.wrap (c-p.len)=c-p.len:=by rw[IntKind.wrap_i64];omega
 by_cases u:0<=p.off
 ·by_cases u2:p.off<=c-p.len
  ·rw[show ke p.off p.len c=true from decide_eq_true ⟨u,u2⟩];exact xge
  rw[show ke p.off p.len c=false from yay (λc=>u2 c.2)];have S:=yay u2;exact xge
 rw[show ke p.off p.len c=false from yay (λc=>u c.1)];have bR:=yay u;exact xge
structure BL(w:World)(g n:Nat)(b:Nat->Bool):Prop where
 lt:g<w.heap.size
 at_:∀k,k<n->w.cell? ⟨g,k,none⟩=some (.bool (b k))
 free:∀o,w.frozen? ⟨g,o,none⟩=false
theorem BL.keep{O l h}(f:BL w g n b)(k:Kept l h w O)(aN:g<l\/h<=g\/h<=l):BL O g n b:=
 ⟨yak f.lt k.size,λi hi=>by rw[k.cell (p:=⟨g,i,none⟩) f.lt (by show ¬(l<=g/\g<h);omega)];exact f.at_ i hi,λo=>by rw[k.frozen (p:=⟨g,o,none⟩) f.lt (by show ¬(l<=g/\g<h);omega)];exact f.free o⟩
theorem BL.congr{B}(f:BL w g n b)(h:∀k,k<n->b k=B k):BL w g n B:=⟨f.lt,λk J=>by rw[<-h k J];exact f.at_ k J,f.free⟩
theorem BL.set(f:BL w g n b)(k)(J:k<n):BL (w.setCell ⟨g,k,none⟩ (.bool true)) g n (λj=>if j=k then true else b j):=by
 refine⟨by simpa using f.lt,λj hj=>?_,λo=>by simp[f.free o]⟩;by_cases e:j=k
 ·subst e;rw[iv rfl];exact fc _ _ _ _ _ (f.at_ j hj)
 rw[ip e,eG _ _ _ _ _ _ (.inr (λc=>e c.symm))];exact f.at_ j hj
theorem A5(w g an n cap b)(hn:n<=1000)(ai:∀k,k<n->w.cell? ⟨g,an+k,none⟩=some (.bool (b k))):
  Calls prog 77 #[.slice (some ⟨g,an,none⟩) n cap,.bool false] w λe O=>(∃r:Int,e=.returned (ih r)/\decide (0<=r)=!((List.range n).all b))/\w=O:=by
 have bi:V _:=ai;clear ai;go_enter func77,ntmps77;go_wp2_with fail;go_loop [8] (λi=>∃k:Nat,k<=n/\i=ih k/\V ((List.range k).all b=true)) (λi=>n-(intOf i).toNat)
 case atStart=>exact⟨0,yae,rfl,rfl⟩
 case round=>
  obtain⟨k,J,rfl,bl⟩:=hrel;by_cases aY:k<n
  ·have c:=bi.o k aY;cases t:b k
   ·have H:V _:=jc aY t;rw[t]at c;clear bl;go_wp2;go_ret;exact⟨⟨k,rfl,by rw[H.o];simp⟩,rfl⟩
   have H:V _:=iL bl.o t;rw[t]at c;exact xhu
  have H:V ((List.range n).all b=true):=by
   have:=bl.o;rw[show k=n by omega]at this;exact this
  clear bl;go_wp2;go_ret;exact⟨⟨-1,rfl,by rw[H.o];decide⟩,rfl⟩
theorem uy(w g an n cap b)(hn:n<=1000)(ai:∀k,k<n->w.cell? ⟨g,an+k,none⟩=some (.bool (b k))):
  Calls prog 57 #[.slice (some ⟨g,an,none⟩) n cap,.bool false] w λe O=>e=.returned (.bool (!((List.range n).all b)))/\w=O:=by
 have bA:V _:=A5 w g an n cap b hn ai;clear ai;go_enter func57,ntmps57;go_wp2_with fail;refine yaj bA.o ?_;rintro e ak ⟨⟨r,rfl,au⟩,rfl⟩;go_wp2;go_ret;exact⟨by rw[<-au];rfl,rfl⟩
theorem lH(w:World)(p):AtP (w.alloc p.box) w.heap.size 0 p:=by
 refine⟨?_,?_⟩;all_goals first|(go_simp;done)|(simp;done)
theorem KG(w g n cap b)(hn:n<=50000)(y:n<=cap)(f:BL w g n b)(o m)(B:1<=m)(N:m<=1000)(h3:o+m<=n):
  Calls prog 31 #[ia g n cap,(Spn.mk (o:Int) (m:Int)).agg] w λe O=>e=.returned (.bool ((List.range m).all λj=>b (o+j)))/\Kept 0 0 w O:=by
 have aS:=eA 0 0 w (Spn.mk (o:Int) (m:Int)).box;have aZ:=lH w (Spn.mk (o:Int) (m:Int));have aO:V _:=f.keep aS yaa;have HK:V _:=aS;have ao:V _:=aZ;have l:V (w.heap.size<(w.alloc (Spn.mk (o:Int) (m:Int)).box).heap.size):=by show _<_;simp
 obtain⟨aU,ax⟩:=aZ;rw[Nat.zero_add]at ax
 have bF:V _:=λw=>by
  have:=xL w (Spn.mk (o:Int) (m:Int)) (n:Int) (by show(1:Int)<=(m:Int);omega) (by show(m:Int)<=1000;omega) xaa xaa
  rw[show ke (o:Int) (m:Int) (n:Int)=true from decide_eq_true ⟨by omega,by omega⟩]at this
  exact this
 have HE:V (∀w,Calls prog 56 #[(Spn.mk (o:Int) (m:Int)).agg] w λe O=>e=.returned (ih ((o:Int)+m))/\Kept 0 0 w O):=λw=>qA w (Spn.mk (o:Int) (m:Int)) (by show -1000000<=(o:Int)+m/\(o:Int)+m<=1000000;omega);have bi:V (∀O t,Kept 0 0 (w.alloc (Spn.mk (o:Int) (m:Int)).box) O->_):=λO t k=>uy O g o m t (λj=>b (o+j)) N (λj hj=>(aO.o.keep k yaa).at_ (o+j) xaa);clear f aS;generalize ((List.range m).all λj=>b (o+j))=z at bi⊢;go_enter func31,ntmps31;go_wp2_with fail;generalize w.alloc (Spn.mk (o:Int) (m:Int)).box=aK at aO HK ao l bi aU ax⊢
 go_region_with
  (first
   |(go_at_call 57;refine yaj (bi.o _ _ b9) ?_;rintro e bx ⟨rfl,rfl⟩)
   |(go_at_call 56;refine yaj (HE.o _) ?_;rintro e aM ⟨rfl,a9⟩;have b9:=Kept.trans d a9;obtain⟨bm,aW⟩:=AtP.keep ao.o l.o b9 yaa;rw[Nat.zero_add]at aW)
   |(go_at_call 54;refine yaj (bF.o _) ?_;rintro e ak ⟨rfl,aC⟩;have d:=Kept.trans (eJ 0 0 aK 1) aC;obtain⟨a0,av⟩:=AtP.keep ao.o l.o d yaa;rw[Nat.zero_add]at av))
 all_goals
  go_wp2
  go_ret
  exact⟨by cases z<;>rfl,Kept.trans HK.o b9⟩
theorem G4(w)(g n cap:Nat)(hn:n<=50000)(p:Spn)(B:1<=p.len)(N:p.len<=1000)(h3:ke p.off p.len n=false):
  Calls prog 31 #[ia g n cap,p.agg] w λe O=>e=.returned (.bool false)/\Kept 0 0 w O:=by
 have aS:=eA 0 0 w p.box;have aZ:=lH w p;have HK:V _:=aS;have ao:V _:=aZ;have l:V (w.heap.size<(w.alloc p.box).heap.size):=by show _<_;simp
 obtain⟨aU,ax⟩:=aZ;rw[Nat.zero_add]at ax
 have bF:V _:=λw=>by
  have:=xL w p (n:Int) B N xaa xaa
  rw[h3]at this
  exact this
 clear aS;go_enter func31,ntmps31;go_wp2_with fail;generalize w.alloc p.box=aK at HK ao l aU ax⊢;first|(go_region_with (go_at_call 54;refine yaj (bF.o _) ?_;rintro e ak ⟨rfl,aC⟩;have d:=Kept.trans (eJ 0 0 aK 1) aC;obtain⟨a0,av⟩:=AtP.keep ao.o l.o d yaa;rw[Nat.zero_add]at av))|fail
 all_goals
  go_wp2
  go_ret
  exact⟨rfl,Kept.trans HK.o (Kept.trans (eJ 0 0 aK 1) aC)⟩
theorem Py(w g n cap af i)(hn:n<=50000)(y:n<=cap)(f:BL w g n (λk=>f8 af i (k:Nat)))(p:Spn)(B:1<=p.len)(N:p.len<=1000):
  Calls prog 31 #[ia g n cap,p.agg] w λe O=>e=.returned (.bool (iX af i n p.off p.len))/\Kept 0 0 w O:=by
 cases h3:ke p.off p.len n
 ·have e:iX af i n p.off p.len=false:=by unfold iX;rw[h3];rfl
  rw[e];exact G4 w g n cap hn p B N h3
 have bp:=of_decide_eq_true h3;obtain⟨an,len⟩:=p;simp only at B N bp⊢;obtain⟨o,rfl⟩:=Int.eq_ofNat_of_zero_le bp.1;obtain⟨m,rfl⟩:=Int.eq_ofNat_of_zero_le (by omega:0<=len)
 have e:iX af i n (o:Int) (m:Int)=((List.range m).all λj=>f8 af i ((o+j:Nat):Int)):=by
  unfold iX;rw[h3,Int.toNat_natCast,Bool.true_and];congr 1
 rw[e];exact KG w g n cap (λk=>f8 af i (k:Nat)) hn y f o m xaa xaa xaa
theorem Pz(w)(s p:Spn)(B:-1000000<=s.off+s.len/\s.off+s.len<=1000000)(N:-1000000<=p.off+p.len/\p.off+p.len<=1000000):
  Calls prog 55 #[s.agg,p.agg] w λe O=>e=.returned (.bool (decide (s.off<p.off+p.len/\p.off<s.off+s.len)))/\Kept 0 0 w O:=by
 have aS:=(eA 0 0 w s.box).trans (eA 0 0 _ p.box);have b5:(w.alloc s.box).heap.size=w.heap.size+1:=by simp
 have bB:=(lH w s).keep xac (eA 0 0 (w.alloc s.box) p.box) yaa;have aN:=lH (w.alloc s.box) p;rw[b5]at aN;have HK:V _:=aS;have ao:V _:=bB;have y:V _:=aN;have b9:V (w.heap.size+1<((w.alloc s.box).alloc p.box).heap.size):=by show _<_;simp
 have f:V _:=λw=>qA w s B;have aB:V _:=λw=>qA w p N;obtain⟨aU,ax⟩:=bB;obtain⟨bo,ar⟩:=aN;rw[Nat.zero_add]at ax ar;clear aS b5;by_cases u:s.off<p.off+p.len
 ·have HR:V (decide (s.off<p.off+p.len/\p.off<s.off+s.len)=decide (p.off<s.off+s.len)):=by
   show _=_;rw[Bool.eq_iff_iff];simp[u]
  have bR:=decide_eq_true u;go_enter func55,ntmps55;go_wp2_with fail;generalize (w.alloc s.box).alloc p.box=aK at HK ao y b9 aU ax bo ar⊢
  go_region_held3 (λO=>O.cell? ⟨w.heap.size,0,none⟩=some (ih s.off)/\O.cell? ⟨w.heap.size,1,none⟩=some (ih s.len)/\O.cell? ⟨w.heap.size+1,0,none⟩=some (ih p.off)/\O.cell? ⟨w.heap.size+1,1,none⟩=some (ih p.len)) (go_keep) (first
   |(go_at_call 56;refine yaj (f.o _) ?_;rintro e aM ⟨rfl,a9⟩;have h:=Kept.trans d a9;obtain⟨ag,m1⟩:=AtP.keep ao.o (i4 b9.o) h yaa;obtain⟨a5,cj⟩:=AtP.keep y.o b9.o h yaa;rw[Nat.zero_add]at m1 cj)
   |(go_at_call 56;refine yaj (aB.o _) ?_;rintro e ak ⟨rfl,aC⟩;have d:=Kept.trans (eJ 0 0 aK 1) aC;obtain⟨a0,av⟩:=AtP.keep ao.o (i4 b9.o) d yaa;obtain⟨bm,aW⟩:=AtP.keep y.o b9.o d yaa;rw[Nat.zero_add]at av aW))
  all_goals
   go_wp2
   go_ret
   exact⟨jL HR.o,Kept.trans HK.o h⟩
 have HR:V (decide (s.off<p.off+p.len/\p.off<s.off+s.len)=false):=yay (λc=>u c.1);have bR:=yay u;go_enter func55,ntmps55;go_wp2_with fail;generalize (w.alloc s.box).alloc p.box=aK at HK ao y b9 aU ax bo ar⊢;first|(go_region_with (go_at_call 56;refine yaj (aB.o _) ?_;rintro e ak ⟨rfl,aC⟩;have d:=Kept.trans (eJ 0 0 aK 1) aC;obtain⟨a0,av⟩:=AtP.keep ao.o (i4 b9.o) d yaa;obtain⟨bm,aW⟩:=AtP.keep y.o b9.o d yaa;rw[Nat.zero_add]at av aW))|fail
 all_goals
  go_wp2
  go_ret
  exact⟨jL HR.o,Kept.trans HK.o d⟩
def nG(s:Ste)(k:Nat):Int:=if k=0 then s.a else if k=1 then s.b else s.c
def qB(s:Ste)(k:Nat):Int:=if k=0 then s.n else s.len
theorem B0(w s)(k:Nat)(J:k<3):
  Calls prog 45 #[s.agg,ih k] w λe O=>e=.returned (ih (nG s k))/\Kept 0 0 w O:=by
 rcases (by omega:k=0\/k=1\/k=2) with rfl|rfl|rfl
 all_goals
  go_enter func45,ntmps45
  go_wp2
  go_ret
  exact⟨rfl,eA _ _ _ _⟩
theorem N8(w s)(k:Nat)(J:k<3):
  Calls prog 46 #[s.agg,ih k] w λe O=>e=.returned (ih (qB s k))/\Kept 0 0 w O:=by
 rcases (by omega:k=0\/k=1\/k=2) with rfl|rfl|rfl
 all_goals
  go_enter func46,ntmps46
  go_wp2
  go_ret
  exact⟨rfl,eA _ _ _ _⟩
theorem L9{op}(aj:0<=op)(B:op<=13):vY op=cnt op:=by
 by_cases h:op=0
 ·subst h;rfl
 exact yw xaa B
theorem A6(J:k<cnt s.op):∃p,(fg s)[k]? =some p/\p.off=nG s k/\p.len=qB s k:=by
 have:=io s.op;unfold fg;rw[List.getElem?_take_of_lt J];rcases (by omega:k=0\/k=1\/k=2) with rfl|rfl|rfl
 ·exact⟨_,rfl,rfl,rfl⟩
 ·exact⟨_,rfl,rfl,rfl⟩
 exact⟨_,rfl,rfl,rfl⟩
def lY(s:Ste)(k:Nat):Bool:=if k=0 then !((decide (cnt s.op<1)&&s.op !=0)&&s.a !=0)else if k=1 then !(decide (cnt s.op<2)&&s.b !=0)else !((decide (cnt s.op<3)&&!gH s.op)&&s.c !=0)
theorem oS(s):fL (gM s)=(List.range 3).all (lY s):=by
 have e:(List.range 3).all (lY s)=(lY s 0&&(lY s 1&&(lY s 2&&true))):=rfl;rw[e];show(!(((decide (cnt s.op<1)&&s.op !=0)&&s.a !=0)||(decide (cnt s.op<2)&&s.b !=0)||((decide (cnt s.op<3)&&!gH s.op)&&s.c !=0)))=((!((decide (cnt s.op<1)&&s.op !=0)&&s.a !=0))&&((!(decide (cnt s.op<2)&&s.b !=0))&&((!((decide (cnt s.op<3)&&!gH s.op)&&s.c !=0))&&true)));generalize ((decide (cnt s.op<1)&&s.op !=0)&&s.a !=0)=x;generalize (decide (cnt s.op<2)&&s.b !=0)=y;generalize ((decide (cnt s.op<3)&&!gH s.op)&&s.c !=0)=z;cases x<;>cases y<;>cases z<;>rfl
theorem G5(h:k<cnt s.op):lY s k=true:=by
 have:=io s.op;unfold lY;rcases (by omega:k=0\/k=1\/k=2) with rfl|rfl|rfl
 ·rw[iv rfl,yay xaa];rfl
 ·rw[ip xaa,iv rfl,yay xaa];rfl
 rw[ip xaa,ip xaa,yay xaa];rfl
theorem zM(s):(List.range (cnt s.op)).all (lY s)=true:=by
 rw[List.all_eq_true];intro k J;exact G5 (List.mem_range.1 J)
theorem N9(h:cnt s.op<=0):lY s 0=!(!(s.op==0)&&(s.a !=0)):=by
 unfold lY;rw[iv rfl,decide_eq_true xaa];rfl
theorem Oa(h:cnt s.op<=1):lY s 1=!(s.b !=0):=by
 unfold lY;rw[ip xaa,iv rfl,decide_eq_true xaa];rfl
theorem Ob(h:cnt s.op<=2):lY s 2=!(!((s.op==11)||(s.op==12))&&(s.c !=0)):=by
 unfold lY;rw[ip xaa,ip xaa,decide_eq_true xaa,Bool.true_and]
 have:gH s.op=((s.op==11)||(s.op==12)):=by
  unfold gH;rw[Bool.eq_iff_iff];simp
 rw[this]
theorem G6(h:¬(0<=s.op/\s.op<=13/\1<=s.len/\s.len<=1000)):fN ins s=false:=by
 cases br:fN ins s
 ·rfl
 have:=lX br;have:=su br;exact absurd ⟨by omega,by omega,by omega,by omega⟩ h
theorem m8(h:fL (gM s)=false):fN ins s=false:=by
 unfold fN;rw[h];simp
theorem A7(w a1 K a3 Y c1 ae c2 aa c3 ay)(s:Ste)(h:¬(0<=s.op/\s.op<=13/\1<=s.len/\s.len<=1000)):
  Calls prog 44 #[jh a1 Y c1 K ae c2 a3 aa c3 ay,s.agg] w λe O=>e=.returned (.bool false)/\Kept 0 0 w O:=by
 have aS:=(eA 0 0 w (im a1 Y c1 K ae c2 a3 aa c3 ay)).trans (eA 0 0 _ s.box);by_cases bK:s.op<0
 ·exact xff
 have bE:=yay bK;by_cases a1:13<s.op
 ·exact xff
 have R:=yay a1;by_cases K:s.len<1
 ·exact xff
 have a6:=yay K;have a3:1000<s.len:=xaa;exact xff
