import Derived.Test.YtcjhlkdleojbjaaGreatP34
import Derived.Test.YtcjhlkdleojbjaaGreatP19
import Derived.Test.YtcjhlkdleojbjaaGreatP29
namespace Go.Proofs.Z
variable{Zp:Prop}
open Tryz Go.RowKit Flt
set_option maxRecDepth 1000000
set_option maxHeartbeats 0
section
attribute[local go_sem] eF eE eD
variable{J P n cap i Z c1 c2 ab c3:Nat}{a a1 U a3:Option Addr}{bs ins outs:List Int}{vs:List Vl}
theorem c.qab(h:Zp:=by
 obtain⟨g,ce,aK,ai,b8,a7⟩:=jN h.dg.r2 rfl X;cases aK;exact qdo):Zp:=h
theorem c.qdp(h:Zp:=by
 have u:(nv bs i:Int)%16=10:=hJ G.o
 clear G;obtain⟨_,aY,aC,aL,_,_,_⟩:=ao.o.bx;go_wp2_with fail;refine yaj (ao.o.pick ad _) ?_;rintro e bc ⟨rfl,z,bM⟩;replace HK:E _:=HK.o.trans bM;replace ao:E _:=z;clear z bM aY aC aL aP;obtain⟨_,aY,aC,aL,_,_,_⟩:=ao.o.bx;go_wp2_with fail;refine yaj (ao.o.pick ad _) ?_;rintro e aW ⟨rfl,v,bQ⟩;replace HK:E _:=HK.o.trans bQ;replace ao:E _:=v;clear v bQ aY aC aL;exact xbm):Zp:=h
open c in
theorem IL{w}(f:DG w J (.slice a1 Z c1) (.slice U vs.length c2) (.slice a3 ab c3) ins vs outs)(K:RdF w P a n cap i bs)(hP:P<J)(ad:vs.length<=100000)(al:0<vs.length){m}(am:(vd vs (nv bs (ni bs i)%vs.length)).len=m)(O:nv bs i%16=10):
  Calls prog 48 #[eZ a1 Z c1 U vs.length c2 a3 ab c3,hy P] w (GwO w J P a n cap (ni bs (ni bs (ni bs (ni bs i)))) bs (.slice a1 Z c1) (.slice U vs.length c2) (.slice a3 ab c3) ins vs outs ⟨8,m,((nv bs (ni bs i)%vs.length:Nat):Int),jC vs m (nv bs (ni bs (ni bs i))),jC vs m (nv bs (ni bs (ni bs (ni bs i)))),0⟩):=by
 exact qaa
theorem d.qab(h:Zp:=by
 obtain⟨g,ce,aK,ai,b8,a7⟩:=jN h.dg.r2 rfl X;cases aK;exact qdo):Zp:=h
theorem d.qdp(h:Zp:=by
 have u:(nv bs i:Int)%16=12:=hJ G.o
 clear G;exact xba):Zp:=h
open d in
theorem E8{w}(f:DG w J (.slice a1 Z c1) (.slice U vs.length c2) (.slice a3 ab c3) ins vs outs)(K:RdF w P a n cap i bs)(hP:P<J)(ad:vs.length<=100000)(al:0<vs.length){m:Nat}(am:(vd vs (nv bs (ni bs i)%vs.length)).len=(m:Int))(a6:0<m)(a5:m<=1000)(O:nv bs i%16=12):
  Calls prog 48 #[eZ a1 Z c1 U vs.length c2 a3 ab c3,hy P] w (GwO w J P a n cap (ni bs (ni bs (ni bs i))) bs (.slice a1 Z c1) (.slice U vs.length c2) (.slice a3 ab c3) ins vs outs ⟨11,1,((nv bs (ni bs i)%vs.length:Nat):Int),0,((nv bs (ni bs (ni bs i))%m:Nat):Int),0⟩):=by
 have ah:(nv bs (ni bs (ni bs i)):Int)%(m:Int)=((nv bs (ni bs (ni bs i))%m:Nat):Int):=xaa;have R:nv bs (ni bs (ni bs i))%m<m:=Nat.mod_lt _ a6;have aT:=ib K.ys (ni bs (ni bs i));generalize nv bs (ni bs (ni bs i))%m=c at ah R⊢;have HC:E ((nv bs (ni bs (ni bs i)):Int).tmod (m:Int)=c):=(Int.tmod_eq_emod_of_nonneg xaa).trans ah;clear ah;exact qaa
end
section
variable{g cap:Nat}
def AfO(w:World)(e:Ending)(w':World):Prop:=∃R g,e=.returned (.pointer (some ⟨R,0,none⟩))/\FrP w' R g 1 [Spn.mk 0 50000]/\Kept 0 0 w w'/\w.heap.size<=R/\w.heap.size<=g
theorem IM(w):Calls prog 57 #[] w λe B=>AfO w e B:=by
 have ay:FRw (w.alloc (.cells #[hA 0,hA 50000] 67)) w.heap.size 1 [Spn.mk 0 50000]:=xC w #[hA 0,hA 50000] [Spn.mk 0 50000] 1 yad xab rfl (λj u aB=>by
  have hj:=(List.getElem?_eq_some_iff.1 aB).1
  have aT:j<2:=hj
  rcases (by omega:j=0\/j=1) with rfl|rfl
  ·exact aB
  ·exact aB)
 have aj:E _:=ay;clear ay;go_enter func57,ntmps57;go_wp2_with fail;go_ret;unfold AfO;have bv:(w.alloc (.cells #[hA 0,hA 50000] 67)).heap.size=w.heap.size+1:=by simp
 have aL:=ez 0 0 (w.alloc (.cells #[hA 0,hA 50000] 67)) (.cells #[hz w.heap.size 1 1,.func (.func 85) #[] #[]] 143);refine⟨w.heap.size+1,w.heap.size,rfl,⟨?_,?_,?_,aj.o.keepC (aL.chg (S:=λ_=>False)) (λh=>h),by omega,by simp⟩,(ez 0 0 w _).trans aL,by omega,yad⟩
 ·rw[World.cell?_alloc_at _ _ (w.heap.size+1) 0 bv.symm];rfl
 ·rw[World.cell?_alloc_at _ _ (w.heap.size+1) 1 bv.symm];rfl
 exact World.frozen?_alloc_at _ _ (w.heap.size+1) 0 bv.symm
theorem IN(w H i)(hi:i<0):
  Calls prog 92 #[hy H,hA i] w λe B=>e=.returned (.tuple #[])/\Kept 0 0 w B:=by
 exact xeo
theorem FRw.len1{W pre post y}(f:FRw W g cap (pre++y::post))(z):FRw (W.setCell ⟨g,pre.length*2+1,none⟩ (hA z)) g cap (pre++⟨y.off,z⟩::post):=by
 have an:(Spn.mk y.off z).cells.length=2:=rfl;have bN:y.cells.length=2:=rfl
 have h:=f.core (pre.length*2+1) [hA z] (pre++⟨y.off,z⟩::post) (by have:=f.le;simp only[yal,yaq]at this⊢;exact this) (by have:=f.le;simp only[yal,yaq,List.length_nil]at this⊢;omega) (λj u aB=>by
  rw[iw]at aB⊢
  by_cases hj:j<pre.length*2
  ·exact xdb
  ·rw[yas (by rw[fd];omega),fd,fL]at aB
   by_cases N:j<pre.length*2+2
   ·rw[yat (hN an)]at aB
    rcases (by omega:j=pre.length*2\/j=pre.length*2+1) with e|e
    ·subst e
     refine .inr ⟨by simp only[yaq,List.length_nil];omega,?_⟩
     rw[yas (by rw[fd];omega),fd,fL,yat (hN bN)]
     rw[Nat.sub_self]at aB⊢
     exact aB
    ·subst e
     refine .inl ⟨by omega,by simp only[yaq,List.length_nil];omega,?_⟩
     rw[show pre.length*2+1-pre.length*2=1 by omega]at aB
     rw[Nat.sub_self]
     exact aB
   ·rw[yas (hN an),an]at aB
    refine .inr ⟨by simp only[yaq,List.length_nil];omega,?_⟩
    rw[yas (by rw[fd];omega),fd,fL,yas (hN bN),bN]
    exact aB)
 exact h
theorem IP(w H g cap i)(ba:w.cell? ⟨H,0,none⟩=some (hz g (i+1) cap))(hb:i<=1000000):
  Calls prog 92 #[hy H,hA i] w λe B=>e=.returned (.tuple #[])/\Kept 0 0 w B:=by
 have hd0:decide ((i:Int)<0)=false:=yay xaa;have bA:IntKind.i64.wrap ((i:Int)+1)=(i:Int)+1:=by rw[IntKind.wrap_i64];omega
 exact xeo
theorem BH(w H g cap i n)(s t:Spn)(ba:w.cell? ⟨H,0,none⟩=some (hz g n cap))(hi:i+1<n)(hb:n<=1000001)
  (aP:w.cell? ⟨g,i*2,none⟩=some (hA s.off)) (y2:w.cell? ⟨g,i*2+1,none⟩=some (hA s.len)) (y3:w.cell? ⟨g,(i+1)*2,none⟩=some (hA t.off)) (K:H<w.heap.size) (aJ:g<w.heap.size)
  (au:-1000000<=s.off+s.len/\s.off+s.len<=1000000) (bL:¬s.off+s.len=t.off):
  Calls prog 92 #[hy H,hA i] w λe B=>e=.returned (.tuple #[])/\Kept 0 0 w B:=by
 have hd0:decide ((i:Int)<0)=false:=yay xaa;have o:((i:Int)+1==(n:Int))=false:=by simp;omega
 have l:(s.off+s.len==t.off)=false:=by simp;exact bL
 have bA:IntKind.i64.wrap ((i:Int)+1)=(i:Int)+1:=by rw[IntKind.wrap_i64];omega
 have cM:0<=(i:Int):=xaa;have ce:(i:Int)<n:=xaa;have Q:0<=(i:Int)+1:=xaa;have X:(i:Int)+1<(n:Int):=xaa;have HE:E (∀W,_):=λW=>lB W s au;have HR:E _:=K;have be:E _:=aJ;clear K aJ au hi hb bL;go_enter func92,ntmps92;go_wp2_with fail
 go_region_held3 (λB=>B.cell? ⟨H,0,none⟩=some (hz g n cap)/\B.cell? ⟨g,i*2,none⟩=some (hA s.off)/\B.cell? ⟨g,i*2+1,none⟩=some (hA s.len)/\B.cell? ⟨g,(i+1)*2,none⟩=some (hA t.off)) (go_keep)
  (first|(go_at_call 29;refine yaj (HE.o _) ?_;rintro e ag ⟨rfl,u⟩;have ak:=(eG w).trans u;have bn:ag.cell? ⟨H,0,none⟩=some (hz g n cap):=(by rw[ak.cell (p:=⟨H,0,none⟩) HR.o xaa];exact ba);have aX:ag.cell? ⟨g,i*2,none⟩=some (hA s.off):=(by rw[ak.cell (p:=⟨g,i*2,none⟩) be.o xaa];exact aP);have bb:ag.cell? ⟨g,i*2+1,none⟩=some (hA s.len):=(by rw[ak.cell (p:=⟨g,i*2+1,none⟩) be.o xaa];exact y2);have co:ag.cell? ⟨g,(i+1)*2,none⟩=some (hA t.off):=(by rw[ak.cell (p:=⟨g,(i+1)*2,none⟩) be.o xaa];exact y3)))
 all_goals
  go_wp2_with fail
  refine yaz (v:=.tuple #[]) (by simp[results,results92,go_sem]) rfl ?_
  exact⟨rfl,ak⟩
theorem FrP.len1{W H p r s}(f:FrP W H g cap (p++s::r))(z):FrP (W.setCell ⟨g,p.length*2+1,none⟩ (hA z)) H g cap (p++⟨s.off,z⟩::r):=by
 have af:(p++Spn.mk s.off z::r).length=(p++s::r).length:=by simp
 refine⟨?_,?_,?_,f.row.len1 z,f.ne,by simpa using f.lt⟩
 ·rw[af,eQ _ _ _ _ _ _ (.inl (λe=>f.ne e.symm))];exact f.c0
 ·rw[eQ _ _ _ _ _ _ (.inl (λe=>f.ne e.symm))];exact f.c1
 rw[World.frozen?_setCell];exact f.fr
theorem oJ(p r s t):(p++s::t::r).getD p.length Spn.zero=s/\(p++s::t::r).getD (p.length+1) Spn.zero=t:=by
 constructor
 ·rw[yai,yas yad,Nat.sub_self];rfl
 rw[yai,yas xaa,show p.length+1-p.length=1 by omega];rfl
theorem FRw.atN{W l}(f:FRw W g cap l){i}(hi:i<l.length):AtP W g (i*2) (l.getD i Spn.zero):=by
 rcases f.ps.at_ with z|⟨az,off,e,aQ,a8,bi,bk⟩
 ·omega
 injection e with e;injection e with ae a9;subst ae a9;have:=bk i hi;rw[Nat.zero_add]at this;exact this
theorem E9(w H g cap i n p r)(s t:Spn)(f:FrP w H g cap (p++s::t::r))(hi:i=p.length)(ad:(p++s::t::r).length=n)(hb:n<=1000001)
  (al:0<=s.off/\0<=s.len/\s.off+s.len<=50000) (F:0<=t.off/\0<=t.len/\t.off+t.len<=50000) (aZ:s.off+s.len=t.off):
  Calls prog 92 #[hy H,hA i] w λe B=>e=.returned (.tuple #[])/\FrP B H g cap (p++⟨s.off,s.len+t.len⟩::r)/\Chg (λb=>b=H\/b=g) w B:=by
 have aV:i+1<n:=by rw[<-ad,hi];simp
 have hd0:decide ((i:Int)<0)=false:=yay xaa;have o:((i:Int)+1==(n:Int))=false:=by simp;omega
 have l:(s.off+s.len==t.off)=true:=by simp;exact aZ
 have bA:IntKind.i64.wrap ((i:Int)+1)=(i:Int)+1:=by rw[IntKind.wrap_i64];omega
 have cl:IntKind.i64.wrap (s.len+t.len)=s.len+t.len:=by rw[IntKind.wrap_i64];omega
 have cM:0<=(i:Int):=xaa;have ce:(i:Int)<n:=xaa;have Q:0<=(i:Int)+1:=xaa;have X:(i:Int)+1<(n:Int):=xaa;have HE:E (∀W,_):=λW=>lB W s xaa;have HR:E _:=f.lt;have be:E _:=f.row.lt;have ba:=f.c0;rw[ad]at ba;obtain⟨aP,y2⟩:=f.row.atN (i:=i) xaa;obtain⟨y3,_⟩:=f.row.atN (i:=i+1) xaa;rw[hi,(oJ p r s t).1,<-hi]at aP y2;rw[hi,(oJ p r s t).2,<-hi]at y3
 have j:E (∀W,Kept 0 0 w W->Calls prog 89 #[hy H,hA ((i:Int)+1)] W λe B=>e=.returned t.agg/\FrP B H g cap (p++s::r)/\Chg (λb=>b=H\/b=g) W B):=λW bJ=>by
  have h:=Cm W H g cap (i+1) (p++s::t::r) (f.keepC (bJ.chg (S:=λ_=>False)) (λh=>h) (λh=>h)) xaa xaa
  have ae:(p++s::t::r).take (i+1)++(p++s::t::r).drop (i+1+1)=p++s::r:=by
   have a:p++s::t::r=(p++[s])++t::r:=by simp
   have b:(p++[s]).length=i+1:=by simp[hi]
   rw[a,List.take_left' b]
   have c:(p++[s])++t::r=((p++[s])++[t])++r:=by simp
   rw[c,List.drop_left' (by simp[hi])]
   simp
  rw[ae,hi,(oJ p r s t).2,<-hi]at h
  exact h
 have bm:E ((p++s::r).length=n-1/\i=p.length):=⟨by rw[<-ad];simp,hi⟩
 have aR:(i:Int)<((n-1:Nat):Int):=xaa;have x:E _:=f.ne;clear f hi ad hb al F aZ aV;go_enter func92,ntmps92;go_wp2_with fail
 go_region_held3 (λB=>B.cell? ⟨H,0,none⟩=some (hz g n cap)/\B.cell? ⟨g,i*2,none⟩=some (hA s.off)/\B.cell? ⟨g,i*2+1,none⟩=some (hA s.len)/\B.cell? ⟨g,(i+1)*2,none⟩=some (hA t.off)) (go_keep)
  (first|(go_at_call 29;refine yaj (HE.o _) ?_;rintro e ag ⟨rfl,u⟩;have ak:=(eG w).trans u;have bn:ag.cell? ⟨H,0,none⟩=some (hz g n cap):=(by rw[ak.cell (p:=⟨H,0,none⟩) HR.o xaa];exact ba);have aX:ag.cell? ⟨g,i*2,none⟩=some (hA s.off):=(by rw[ak.cell (p:=⟨g,i*2,none⟩) be.o xaa];exact aP);have bb:ag.cell? ⟨g,i*2+1,none⟩=some (hA s.len):=(by rw[ak.cell (p:=⟨g,i*2+1,none⟩) be.o xaa];exact y2);have co:ag.cell? ⟨g,(i+1)*2,none⟩=some (hA t.off):=(by rw[ak.cell (p:=⟨g,(i+1)*2,none⟩) be.o xaa];exact y3)))
 all_goals
  have bB:E _:=ak
  clear ba aP y2 y3 bn aX bb co ak u
  go_wp2_with fail
  refine yaj (j.o ag bB.o) ?_
  rintro e aF ⟨rfl,v,P⟩
  have bh:=ez 0 0 aF (lh t)
  have b9:E _:=v.keepC (bh.chg (S:=λ_=>False)) (λh=>h) (λh=>h)
  have cw:E (Chg (λb=>b=H\/b=g) w (aF.alloc (lh t))):=Chg.andThen bB.o.chg (Chg.andThen P bh.chg)
  have bL:XB (aF.alloc (lh t)) aF.heap.size t:=m8 aF t
  have bo:(aF.alloc (lh t)).cell? ⟨aF.heap.size,1,none⟩=some (hA t.len):=bL.at_ 1 _ rfl
  have bz:(aF.alloc (lh t)).cell? ⟨aF.heap.size,0,none⟩=some (hA t.off):=bL.at_ 0 _ rfl
  clear v P bh bL
  go_upto_region 2 with fail
  generalize aF.alloc (lh t)=bc at b9 cw bz bo⊢
  generalize aF.heap.size=J at bz bo⊢
  have ba:=b9.o.c0
  rw[bm.o.1]at ba
  obtain⟨_,y2⟩:=b9.o.row.atN (i:=i) (by have:=bm.o;rw[this.1];omega)
  have a9:(p++s::r).getD i Spn.zero=s:=by
   rw[bm.o.2,yai,yas yad,Nat.sub_self];rfl
  rw[a9]at y2
  have f2:=b9.o.row.fr (i*2+1)
  have m:E _:=b9.o.len1 (s.len+t.len)
  rw[<-bm.o.2]at m
  have N:E (Chg (λb=>b=H\/b=g) w (bc.setCell ⟨g,i*2+1,none⟩ (hA (s.len+t.len)))):=Chg.andThen cw.o (fC bc g _ _ (.inr rfl))
  clear a9 b9 cw j bB
  go_region
  all_goals
   go_wp2_with fail
   refine bodyPost_end (v:=.tuple #[]) (by simp[results,results92,go_sem]) rfl ?_
   exact⟨rfl,m.o.keepC ((eG _).chg (S:=λ_=>False)) (λh=>h) (λh=>h),Chg.andThen N.o (eG _).chg⟩
theorem P1(w H g cap p r s)(f:FrP w H g cap (p++s::r))(hb:(p++s::r).length<=1000001)(aT:∀x∈p++s::r,InB x):
  Calls prog 92 #[hy H,hA p.length] w λe B=>e=.returned (.tuple #[])/\FrP B H g cap (p++jU s r)/\Chg (λb=>b=H\/b=g) w B:=by
 cases r with
 |nil=>
  have af:(p++[s]).length=p.length+1:=by simp
  refine yaj (IP w H g cap p.length (hM af f.c0) xaa) ?_;rintro e B ⟨rfl,k⟩;exact⟨rfl,f.keepC (k.chg (S:=λ_=>False)) (λh=>h) (λh=>h),k.chg⟩
 |cons t r=>
  have au:=aT s (List.mem_append_right _ List.mem_cons_self);have ht:=aT t (List.mem_append_right _ (List.mem_cons_of_mem _ List.mem_cons_self));by_cases e:s.off+s.len=t.off
  ·refine yaj (E9 w H g cap p.length _ p r s t f rfl rfl hb au ht e) ?_;rintro aN B ⟨rfl,F,N⟩;rw[ri e];exact⟨rfl,F,N⟩
  have aG:p.length+1<(p++s::t::r).length:=by simp
  obtain⟨aP,y2⟩:=f.row.atN (i:=p.length) xaa;obtain⟨y3,_⟩:=f.row.atN (i:=p.length+1) aG;rw[(oJ p r s t).1]at aP y2;rw[(oJ p r s t).2]at y3;refine yaj (BH w H g cap p.length _ s t f.c0 aG hb aP y2 y3 f.lt f.row.lt (hK au.1 au.2) e) ?_;rintro aN B ⟨rfl,k⟩;rw[rj e];exact⟨rfl,f.keepC (k.chg (S:=λ_=>False)) (λh=>h) (λh=>h),k.chg⟩
def RlO(w:World)(R g:Nat)(l:List Spn)(x:Spn)(e:Ending)(w':World):Prop:=∃i g' cap',e=.returned (.tuple #[])/\LbS l x.off i/\FrP w' R g' cap' (zw (l.take i) x (l.drop i))/\Chg (λb=>b=R\/b=g) w w'/\(g'=g\/w.heap.size<=g')
theorem IQ(w H g cap l x)(f:FrP w H g cap l)(au:RunsF 0 l)(hb:l.length<=1000000)(aT:∀s∈l,InB s)(an:InB x):
  Calls prog 60 #[hy H,x.agg] w λe B=>RlO w H g l x e B:=by
 have bh:=ez 0 0 w x.box
 have ar:E (AtP (w.alloc x.box) w.heap.size 0 x):=by
  have:=m8 w x;exact⟨this.at_ 0 _ rfl,this.at_ 1 _ rfl⟩
 have HK:E _:=bh;have cc:E (∀W,Kept 0 0 w W->_):=λW (bJ:Kept 0 0 w W)=>Ck W H g cap l x (f.keepC (bJ.chg (S:=λ_=>False)) (λh=>h) (λh=>h)) au hb;have aD:E (∀W (aq cap':Nat) (p r:List Spn) (s:Spn),FrP W H aq cap' (p++s::r)->(p++s::r).length<=1000001->(∀y∈p++s::r,InB y)->_):=λW aq cap' p r s bg F N=>P1 W H aq cap' p r s bg F N;have av:E _:=aT;have K:E _:=an;have be:E (H<w.heap.size/\g<w.heap.size):=⟨f.lt,f.row.lt⟩
 have J:E _:=hb;clear f au hb aT an bh;go_enter func60,ntmps60;go_upto_region 1 with fail;generalize w.alloc x.box=aA at ar HK⊢;obtain⟨X,bL⟩:∃X,X=w.heap.size:=⟨_,rfl⟩
 rw[<-bL]at ar be⊢;have I:E _:=bL;clear bL;obtain⟨bz,bo⟩:=ar.o;rw[Nat.zero_add]at bo;go_wp2_with fail;first|(go_region_with (first|(go_at_call 91;refine yaj (cc.o aA.drew (HK.o.trans (eG aA))) ?_;rintro e ag ⟨i,aq,cap',rfl,bf,C,Q,a9⟩)))|fail
 all_goals
  have cH:=bf.le
  have aM:(l.take i).length=i:=by rw[List.length_take];omega
  have bW:E (Chg (λb=>b=H\/b=g) w ag):=Chg.andThen (HK.o.trans (eG aA)).chg Q
  have al:E (aq=g\/X<=aq):=a9.imp id (λh=>yao (by rw[I.o];exact(HK.o.trans (eG aA)).size) h)
  have c7:E _:=aD.o ag aq cap' (l.take i) (l.drop i) x C (by have:=J.o;rw[yal,yaq,aM,List.length_drop];omega) (λy bN=>by
   rcases List.mem_append.1 bN with h|h
   ·exact av.o y (List.mem_of_mem_take h)
   ·rcases List.mem_cons.1 h with rfl|h
    ·exact K.o
    ·exact av.o y (List.mem_of_mem_drop h))
  rw[aM]at c7
  have cA:E _:=bf
  have O:E _:=cH
  have a8:(i:Int)<=1000000:=hJ J.o
  clear C Q a9 bf cc bz bo aM cH
  go_wp2_with fail
  refine yaj c7.o ?_
  rintro e aF ⟨rfl,v,P⟩
  have cx:E (Chg (λb=>b=H\/b=g) w aF):=Chg.new bW.o P (λb hb h=>by have:=al.o;have:=be.o;have:=I.o;omega)
  have bA:IntKind.i64.wrap ((i:Int)-1)=(i:Int)-1:=by rw[IntKind.wrap_i64];omega
  clear c7 P bW
  rcases i with _|j
  ·have bX:E (FrP aF H aq cap' (zw (l.take 0) x (l.drop 0))):=v
   have bm:E _:=IN aF H (-1) xaa
   clear v aD
   go_wp2_with fail
   refine yaj bm.o ?_
   rintro e bc ⟨rfl,bM⟩
   go_wp2_with fail
   refine bodyPost_end (v:=.tuple #[]) (by simp[results,results60,go_sem]) rfl ?_
   unfold RlO
   exact⟨0,aq,cap',rfl,cA.o,bX.o.keepC (bM.chg (S:=λ_=>False)) (λh=>h) (λh=>h),Chg.andThen cx.o bM.chg,hK al.o I.o⟩
  ·have ab:j<l.length:=O.o
   obtain⟨q,ap⟩:∃q,q=l.getD j Spn.zero:=⟨_,rfl⟩
   have o:l.take (j+1)=l.take j++[q]:=by
    rw[yau ab,ap,yai,yam ab]
    rfl
   obtain⟨y,u,Z,n⟩:=Bh x (l.drop (j+1))
   have hrel:=DY (l.take j) q x (l.drop (j+1)) y u Z n
   rw[o,Z,List.append_assoc]at v
   have am:=GT (r:=l.drop (j+1)) K.o (λs au=>av.o s (List.mem_of_mem_drop au))
   have ax:=zx x (l.drop (j+1))
   rw[Z]at am ax
   rw[yaq,List.length_drop]at ax
   have eb:(l.take j).length=j:=by rw[List.length_take];omega
   have af:q∈l:=by
    rw[ap,yai,yam ab]
    exact List.getElem_mem _
   have ei:E _:=aD.o aF aq cap' (l.take j) (y::u) q v (by have:=J.o;rw[yal,yaq,yaq,eb];omega) (λz bv=>by
    rcases List.mem_append.1 bv with h|h
    ·exact av.o z (List.mem_of_mem_take h)
    ·rcases List.mem_cons.1 h with rfl|h
     ·exact av.o _ af
     ·exact am z h)
   rw[eb,<-hrel,<-o]at ei
   clear v aD am ax eb af hrel o ab ap Z n
   go_wp2_with fail
   refine yaj ei.o ?_
   rintro e bc ⟨rfl,(b9:E _),m⟩
   have cw:E (Chg (λb=>b=H\/b=g) w bc):=Chg.new cx.o m (λb hb h=>by have:=al.o;have:=be.o;have:=I.o;omega)
   clear m
   go_wp2_with fail
   refine bodyPost_end (v:=.tuple #[]) (by simp[results,results60,go_sem]) rfl ?_
   unfold RlO
   exact⟨j+1,aq,cap',rfl,cA.o,b9.o,cw.o,hK al.o I.o⟩
end
section
attribute[local go_sem] eF eE eD
variable{w B I bc:World}{J D H bP c n G g i cap:Nat}{b:Option Addr}{S:Nat->Prop}{xs:List Int}{L:Nat->List Int}{l r:List Spn}
theorem PA.keepC{vs}(f:PA w g n vs)(k:Chg S w B)(aK:¬S g):PA B g n vs:=by
 have e:∀o,B.cell? ⟨g,o,none⟩=w.cell? ⟨g,o,none⟩:=λo=>k.cell (p:=⟨g,o,none⟩) f.lt aK;exact⟨f.len,yak f.lt k.size,λi hi=>⟨by rw[e];exact(f.at_ i hi).c0,by rw[e];exact(f.at_ i hi).c1⟩,λo=>by rw[k.frozen (p:=⟨g,o,none⟩) f.lt aK];exact f.free o⟩
theorem IT{W base v}(h:W.ownsRow base 3 1 v n (xs.map (Value.int .i64)))(af:xs.length=n):∃a c,v=.slice a n c/\IS W base W.heap.size a n xs:=by
 rcases h.2 with⟨e,z⟩|⟨g,cap,av,e,_⟩
 ·subst z;exact⟨none,0,e,af,.inl rfl⟩
 subst e;exact⟨_,_,rfl,CJ h af⟩
def DRd(W:World)(D lo hi n:Nat)(L:Nat->List Int):Prop:=D<W.heap.size/\∀b,b<n->∃a c,W.cell? ⟨D,b,none⟩=some (.slice a (L b).length c)/\IS W lo hi a (L b).length (L b)
theorem DB.rd{W u}(f:DB W D J n u L):DRd W D J W.heap.size n L:=
 ⟨f.lt,λb hb=>by
  obtain⟨a,c,e,h⟩:=IT (f.row b hb) rfl
  exact⟨a,c,by rw[f.at_ b hb,e],h⟩⟩
theorem DRd.keepC{W lo hi}(f:DRd W D lo hi n L)(k:Chg S W I)(bl:¬S D)(aK:∀g,lo<=g->g<hi->¬S g):DRd I D lo hi n L:=
 ⟨yak f.1 k.size,λb hb=>by
  obtain⟨a,c,e,h⟩:=f.2 b hb
  exact⟨a,c,by rw[k.cell (p:=⟨D,b,none⟩) f.1 bl];exact e,h.keepC k aK⟩⟩
def P3(w:World)(n:Nat)(ps:List Spn)(e:Ending)(w':World):Prop:=∃G,e=.returned (.slice (some ⟨G,0,none⟩) n n)/\PA w' G n ps/\w.heap.size<=G/\Kept 0 0 w w'
structure PW(W w4:World)(R g0 G g cap:Nat)(l:List Spn)(n:Nat)(pl:List Spn):Prop where
 fr:FrP W R g cap l
 pa:PA W G n pl
 ch:Chg (λb=>b=R\/b=g0\/b=G\/w4.heap.size<=b) w4 W
 gg:g=g0\/w4.heap.size<=g
 cs:R≠G/\g0≠G/\G<w4.heap.size
theorem PW.keep{W}(f:PW W bc H bP G g cap l n r)(k:Kept 0 0 W I):PW I bc H bP G g cap l n r:=
 ⟨f.fr.keepC (k.chg (S:=λ_=>False)) (λh=>h) (λh=>h),f.pa.keepC (k.chg (S:=λ_=>False)) (λh=>h),Chg.andThen f.ch k.chg,f.gg,f.cs⟩
theorem PW.next{W aq cap' U}(f:PW W bc H bP G g cap l n r)(bg:FrP I H aq cap' U)(k:Chg (λb=>b=H\/b=g) W I)(aJ:aq=g\/W.heap.size<=aq):PW I bc H bP G aq cap' U n r:=by
 have F:=f.gg;have N:=f.cs;have h3:=f.ch.size;refine⟨bg,f.pa.keepC k xaa,Chg.andThen f.ch (k.mono λb _ h=>by omega),by omega,f.cs⟩
theorem PW.put{W}(f:PW W bc H bP G g cap l n r)(hi:i<n)(s):PW (oh W G (i*2) s) bc H bP G g cap l n (r.set i s):=by
 have F:=f.gg;have N:=f.cs;have k:=(tL W G (i*2) s).chg1 (S:=λb=>b=G) rfl;exact⟨f.fr.keepC k xaa xaa,f.pa.step i hi s,Chg.andThen f.ch (k.mono λb _ h=>by omega),f.gg,f.cs⟩
theorem aT.qbt(h:Zp:=by
 have b2:E ((w.alloc (e9 R Z c1 aS n2 c2 aa ab c3)).heap.size=w.heap.size+1):=by show _=_;simp
 clear f bV cf b1 cB aO cq cG bq;go_enter func26,ntmps26;go_upto_region 1 with fail;generalize w.alloc (e9 R Z c1 aS n2 c2 aa ab c3)=aA at av HF HK b2⊢;go_wp2_with fail;refine yaj (IM aA) ?_;rintro e ag ⟨H,bP,rfl,(bU:E _),(bB:E _),ax,b8⟩;obtain⟨_,aY,aC,aL⟩:=av.o.keep bB.o;have bj:E _:=Iw ag R aS aa Z c1 n2 c2 ab c3 ins vs outs (HF.o.keep bB.o) cD.o;go_wp2_with fail;refine yaj bj.o ?_;rintro e aF ⟨D,J,u,rfl,bl,bT,bA,bd,aR⟩;have aM:E _:=bl.rd;have aK:E _:=bB.o.trans aR;have bX:E _:=bU.o.keepC (aR.chg (S:=λ_=>False)) (λh=>h) (λh=>h);have am:=GJ n2 aF xaa;have bM:=ez 0 0 aF (.cells (madeCells #[hA 0,hA 0] (n2*2)) 67);have bO:E _:=aK.o.trans bM;have aJ:E (DRd (aF.alloc (.cells (madeCells #[hA 0,hA 0] (n2*2)) 67)) D J aF.heap.size n2 (iB vs outs n2)):=bl.rd.keepC (bM.chg (S:=λ_=>False)) (λh=>h) (λ_ _ _ h=>h)
 have ar:E (PW (aF.alloc (.cells (madeCells #[hA 0,hA 0] (n2*2)) 67)) (aF.alloc (.cells (madeCells #[hA 0,hA 0] (n2*2)) 67)) H bP aF.heap.size bP 1 [Spn.mk 0 50000] n2 (mB vs (eW vs outs n2) n2 0)):=
  ⟨bX.o.keepC (bM.chg (S:=λ_=>False)) (λh=>h) (λh=>h),by rw[DZ];exact PA.made aF n2,(hI).chg,.inl rfl,by have:=bX.o.lt;have:=bX.o.row.lt;refine⟨by omega,by omega,by simp⟩⟩
 have al:E ((aF.alloc (.cells (madeCells #[hA 0,hA 0] (n2*2)) 67)).heap.size=aF.heap.size+1/\aA.heap.size<=H/\aA.heap.size<=bP/\H<D/\bP<D/\D<J/\J<=aF.heap.size/\aA.heap.size<=aF.heap.size):=⟨by simp,ax,b8,hJ bU.o.lt,hJ bU.o.row.lt,bA,bd,aK.o.size⟩
 obtain⟨_,bK,bu,p2⟩:=av.o.keep aK.o;obtain⟨_,br,ay,a0⟩:=av.o.keep bO.o;clear bj bl bT bA bd aR bM ax b8 bX aM bU bB aY aC aL;go_wp2_with fail;clear bK bu p2 br ay a0 am;generalize aF.alloc (.cells (madeCells #[hA 0,hA 0] (n2*2)) 67)=bc at bO aJ ar al⊢;obtain⟨G,bg⟩:∃G,G=aF.heap.size:=⟨_,rfl⟩
 rw[<-bg]at aJ ar al⊢;clear bg aK;go_loopw [20] (λx W=>∃(i g cap:Nat) (l:List Spn),i<=n2/\x=hA i/\E (PW W bc H bP G g cap l n2 (mB vs (eW vs outs n2) n2 i))/\E (PlI vs (eW vs outs n2) l (λj=>j<i/\(i:Int)<=iA vs outs j))) (λx _=>n2-(intOf x).toNat)
 case atStart=>exact⟨0,bP,1,_,yae,rfl,ar,(GP vs (eW vs outs n2)).congr (λj=>⟨λh=>h.elim,λh=>by omega⟩)⟩
 case round=>
  obtain⟨i,g,cap,l,hi,rfl,ai,hP⟩:=hrel;clear ar;have Q:E (Kept 0 0 aA wr):=Chg.kept bO.o ai.o.ch (λb e=>hJ al.o);obtain⟨_,aY,aC,aL⟩:=av.o.keep Q.o;by_cases aG:i<n2
  ·obtain⟨az,off,rfl,c6,_,_,a7⟩:=(HF.o.keep Q.o).v.at_idx aG;obtain⟨k,O,y,ad⟩:=Ki bH.o ao.o aG hP.o;have aX:E _:=ad;have ca:=bH.o i aG;have p:E (∀s,s=gz vs (eW vs outs n2) i->(mB vs (eW vs outs n2) n2 i).set i s=mB vs (eW vs outs n2) n2 (i+1)):=λs au=>by rw[au];exact GW _ _ _ _
   rw[<-y]at p;generalize a9:vs.getD i hF=v at a7 O y aX ca p
   have bx:E (∀W,Kept 0 0 wr W->Calls prog 59 #[hy H,hA v.len] W λe B=>TkO W H g k l v.len e B):=λW bJ=>
    PF W H g cap k l v.len (ai.o.keep bJ).fr hP.o.fl.runs (hJ hP.o.few) ca hP.o.fl.top O
   obtain⟨ba,aP,y2,y3,y4,ck⟩:=a7;obtain⟨bD,aQ,a8,bi,bk,K⟩:=i9 wr v;simp only[Nat.zero_add]at aQ a8 bi bk K;have bE:E _:=ai.o.keep (ez 0 0 wr (fH v.op v.len v.a v.b v.c v.k));clear ad y O ai hP a9 ca;go_wp2_with fail;clear ba aP y2 y3 y4 ck bD aQ a8 bi bk K c6 aY aC aL;refine yaj (bx.o _ (ez 0 0 wr _)) ?_;rintro e bp ⟨aq,cap',rfl,ah,X,b7⟩;obtain⟨s,au⟩:∃s,s=Spn.mk (l.getD k Spn.zero).off v.len:=⟨_,rfl⟩
   rw[<-au]at p;have cI:s.off=(l.getD k Spn.zero).off:=by rw[au]
   have ch:s.len=v.len:=by rw[au]
   rw[<-cI,<-ch];have P:E _:=bE.o.next ah X b7;have o:E _:=P.o.put aG s;rw[p.o s rfl]at o;obtain⟨bS,aH⟩:=P.o.pa.at_ i aG;have bR:=P.o.pa.free;generalize bW:(mB vs (eW vs outs n2) n2 i).getD i Spn.zero=bZ at bS aH;have cM:0<=(i:Int):=xaa;have ce:(i:Int)<n2:=xaa;have aD:E (PlI vs (eW vs outs n2) (qA l k v.len) (lT vs outs n2 i 0)):=aX.o.congr (zB vs outs n2 i);generalize qA l k v.len=cg at P o aD;clear bE bx ah X b7 aX p Q bW au cI ch;go_upto_region 8 with fail;clear bS aH bR;obtain⟨a,c,bC,bG⟩:=aJ.o.2 i aG;have bo:E _:=bG;have bF:=aJ.o.1
   have aU:(oh bp G (i*2) s).cell? ⟨D,i,none⟩=some (.slice a (iB vs outs n2 i).length c):=by
    rw[o.o.ch.cell (p:=⟨D,i,none⟩) bF (by have:=al.o;show ¬(D=H\/D=bP\/D=G\/bc.heap.size<=D);omega)];exact bC
   have bw:=vx vs outs n2 i;have bv:E (∀q,q<(iB vs outs n2 i).length->∃bm:Nat,(iB vs outs n2 i).getD q 0=(bm:Int)/\bm<=i/\lT vs outs n2 i q bm):=λq ap=>GX ap;have cy:E (∀q bm,q<(iB vs outs n2 i).length->(iB vs outs n2 i).getD q 0=((bm:Nat):Int)->∀j,(lT vs outs n2 i q j/\j≠bm)↔lT vs outs n2 i (q+1) j):=λq bm ap e j=>Bk ap e j;have bn:E (∀j,lT vs outs n2 i (iB vs outs n2 i).length j↔(j<i+1/\((i+1:Nat):Int)<=iA vs outs j)):=λj=>D0 cA.o aG j;obtain⟨m,am⟩:∃m,m=(iB vs outs n2 i).length:=⟨_,rfl⟩
   rw[<-am]at bo aU bw bv cy bn;clear am bC bG bF;unfold oh at o aU;generalize (bp.setCell ⟨G,i*2,none⟩ (hA s.off)).setCell ⟨G,i*2+1,none⟩ (hA s.len)=cl at o aU⊢;clear P;go_wp2_with fail;clear aU;go_loopw [37] (λx W=>∃(q g cap:Nat) (l:List Spn),q<=m/\x=hA q/\E (PW W bc H bP G g cap l n2 (mB vs (eW vs outs n2) n2 (i+1)))/\E (PlI vs (eW vs outs n2) l (lT vs outs n2 i q))) (λx _=>m-(intOf x).toNat)
   case atStart=>exact⟨0,aq,cap',cg,yae,rfl,o,aD⟩
   case round=>
    obtain⟨q,g,cap,l,ap,rfl,ai,hP⟩:=hrel;clear o aD;by_cases af:q<m
    ·rcases (bo.o.keepC ai.o.ch (λb F N=>hJ al.o)).at_ with z|⟨an,bY,rfl,_,_,_,bk⟩
     ·omega
     have fT:=bk q af;obtain⟨bm,aI,aw,bL⟩:=bv.o q af;rw[aI]at fT;obtain⟨b9,ae⟩:=ai.o.pa.at_ bm xaa;rw[sw vs _ (show bm<n2 by omega),hD (show bm<i+1 by omega)]at b9 ae;have aV:=bN.o bm xaa
     have a2:E (∀U Y,U=zw (l.take Y) (gz vs (eW vs outs n2) bm) (l.drop Y)->LbS l (gz vs (eW vs outs n2) bm).off Y->PlI vs (eW vs outs n2) U (lT vs outs n2 i (q+1))):=λU Y aW bf=>by
      rw[aW]
      have a5:=hP.o
      rw[<-List.take_append_drop Y l]at a5
      exact(NK a5 bL rfl aV.2 aV.1.1 aV.1.2.2 (GQ bf) (GR bf)).congr (cy.o q bm af aI)
     have aB:E _:=IQ wr H g cap l (gz vs (eW vs outs n2) bm) ai.o.fr hP.o.fl.runs (hJ hP.o.few) hP.o.inb aV.1;generalize gz vs (eW vs outs n2) bm=x at b9 ae a2 aB;have aZ:0<=(bm:Int):=xaa;have aT:(bm:Int)<n2:=xaa;have bz:E _:=ai.o;clear bk aI bL aV ai hP;go_wp2_with fail;refine yaj aB.o ?_;rintro e ci ⟨Y,aq,cap',rfl,bf,bh,bb,aN⟩;have aj:E _:=bz.o.next bh bb aN;have bI:E _:=a2.o _ Y rfl bf;clear bh bb aN bf aB a2 bz;go_wp2_with fail;go_roundw;exact⟨q+1,aq,cap',_,by omega,by go_num,aj,bI⟩;simp[intOf];omega
    obtain rfl:q=m:=xaa;have bI:E (PlI vs (eW vs outs n2) l (λj=>j<i+1/\((i+1:Nat):Int)<=iA vs outs j)):=hP.o.congr bn.o;clear hP;go_wp2_with fail;go_roundw;exact⟨i+1,g,cap,l,by omega,by go_num,ai,bI⟩;simp[intOf];omega
  obtain rfl:i=n2:=xaa;have bQ:E _:=ai.o;clear ai hP;go_wp2_with fail;go_ret;unfold P3;exact⟨G,rfl,bQ.o.pa,hK al.o b2.o,HK.o.trans Q.o⟩):Zp:=h
open aT in
theorem IU(w R aS aa Z c1 n2 c2 ab c3 ins vs outs)(f:GS w R Z aS n2 aa ab ins vs outs)(bV:okG ins vs outs=true):
  Calls prog 26 #[eZ R Z c1 aS n2 c2 aa ab c3] w λe B=>P3 w n2 (mB vs (eW vs outs n2) n2 n2) e B:=by
 obtain⟨⟨cf,b1,cB⟩,_,aO,_,cG⟩:=gU bV;have cq:vs.length=n2:=f.v.len;have be:n2<=2000:=xaa;have bH:E (∀j,j<n2->1<=(vs.getD j hF).len):=λj hj=>(fU (aO j xaa)).1
 have ao:E (jW vs n2<=50000):=by
  exact xfc
 have bN:E (∀j,j<n2->InB (gz vs (eW vs outs n2) j)/\1<=(gz vs (eW vs outs n2) j).len):=λj hj=>by
  have F:=kZ (outs:=outs) bH.o ao.o n2 yad j hj
  have N:=gY bH.o (i:=j+1) (j:=n2) xaa xaa
  have h3:=bH.o j hj
  have a6:=ao.o
  refine⟨⟨F.1,?_,?_⟩,h3⟩
  ·show 0<=(vs.getD j hF).len;omega
  ·exact xir
 have cA:E (vs.length=n2):=cq;have cD:E _:=bV;exact qbs
theorem P4(e p x y):Builtin.max_ e p #[hA x,hA y]=pure (hA (if y>x then y else x)):=rfl
theorem LT{vs ps}(hi:i<n)(h:∀k,k<cnt (vs.getD i hF).op->0<=fld (vs.getD i hF) k/\fld (vs.getD i hF) k<i):xB (mB vs ps n n) (vs.getD i hF) (ps.getD i 0)=qy vs ps i:=by
 unfold xB nu qy;generalize vs.getD i hF=v at h⊢
 have aM:∀k,k<cnt v.op->(mB vs ps n n).getD (fld v k).toNat Spn.zero=gz vs ps (fld v k).toNat:=λk O=>by
  have:=h k O
  rw[sw vs ps xaa,hD xaa]
 have al:=aM 0;have F:=aM 1;have N:=aM 2;simp only[fld]at al F N;congr 1<;>split<;>simp_all[gz]
def LsI(w:World)(b:Option Addr)(n c:Nat)(xs:List Int):Prop:=xs.length=n/\((b=none/\n=0/\c=0)\/∃g,b=some ⟨g,0,none⟩/\IE w g xs)
theorem LsI.keep(h:LsI w b n c xs)(k:Kept 0 0 w B):LsI B b n c xs:=⟨h.1,h.2.imp id λ⟨g,e,f⟩=>⟨g,e,f.keep k yaa⟩⟩
theorem Nb{W a}(h:W.ownsRow J 3 1 (.slice a n c) n (xs.map (Value.int .i64)))(af:xs.length=n):LsI W a n c xs:=by
 refine⟨af,?_⟩;rcases h.2 with⟨e,al⟩|⟨g,cap,av,e,_⟩
 ·cases e;exact .inl ⟨rfl,rfl,rfl⟩
 cases e;have q:=JS h af;exact .inr ⟨g,rfl,q.lt,λk O=>q.at_ k xaa⟩
theorem LU(h:LsI w b n c xs)(ad:n<=1000000):Calls prog 27 #[.slice b n c] w λe B=>∃J d,e=.returned (.slice J n d)/\B.ownsRow w.heap.size 3 1 (.slice J n d) n (xs.map (Value.int .i64))/\Kept 0 0 w B:=by
 obtain⟨af,⟨rfl,rfl,rfl⟩|⟨g,rfl,f⟩⟩:=h
 ·obtain rfl:=List.eq_nil_of_length_eq_zero af
  have z:(binOp .eql 23 (.slice none 0 0) (.slice none 0 0)).run prog w=.ok (.bool true) w:=by
   simp only[binOp];simp[run_equal_slice_nil w 23 3 none 0 0 underlying23]
  go_enter func27,ntmps27;go_wp2_with fail;go_ret;exact⟨_,0,rfl,yaw _ _ _ _,hI⟩
 exact(No w g n c _ ad f af).mono λe B ⟨G,_,F,_,_,N,h3⟩=>⟨_,_,F,N,h3⟩
end
section
attribute[local go_sem] eF eE eD P4
def PLi(w:World)(n1 n2 n3:Nat)(bud pk:Int)(ins:List Int)(ss:List Ste)(os:List Spn)(e:Ending)(w':World):Prop:=
 (bud<pk->e=.returned (.tuple #[cnl,.int .i64 7]))/\
 (¬bud<pk->∃a1 d1 a2 d2 a3 d3,e=.returned (.tuple #[re a1 n1 d1 a2 n2 d2 a3 n3 d3 pk,.int .i64 0])/\OCd w' w.heap.size (.slice a1 n1 d1) (.slice a2 n2 d2) (.slice a3 n3 d3) ins ss os)/\Kept 0 0 w w'
theorem bH.qcf(h:Zp:=by
 have cc:E _:=(aM.keep bq).keep aw;have bL:E _:=Dj _ R aS aa Z c1 n2 c2 ab c3 ins vs outs ((f.keep bq).keep aw);rw[bV]at bL;exact qem):Zp:=h
theorem bH.qei(h:Zp:=by
 have l:Z<=1000:=xaa;have be:n2<=2000:=xaa;have cP:ab<=1000:=xaa;have bH:E (∀j,j<n2->1<=(vs.getD j hF).len):=λj hj=>(fU (aO j xaa)).1;have cJ:E (∀i,i<n2->∀k,k<cnt (vs.getD i hF).op->0<=fld (vs.getD i hF) k/\fld (vs.getD i hF) k<i):=λi hi=>Iv (qe (aO i xaa))
 have ao:E (jW vs n2<=50000):=by
  exact xfc
 have bN:E (∀j,j<n2->InB (gz vs (eW vs outs n2) j)):=λj hj=>by
  have F:=kZ (outs:=outs) bH.o ao.o n2 yad j hj
  have N:=gY bH.o (i:=j+1) (j:=n2) xaa xaa
  have h3:=bH.o j hj
  have a6:=ao.o
  refine⟨F.1,?_,?_⟩
  ·show 0<=(vs.getD j hF).len;omega
  ·exact xir
 have HO:E (∀o∈outs,0<=o/\o<n2):=λo h=>hJ (ho o h)
 have cA:E (vs.length=n2/\outs.length=ab/\ins.length=Z):=⟨cq,cK,cH⟩
 have bE:E (∀v∈vs,v.k<18446744073709551616):=f.v.lt;have cD:E _:=bV;exact qce):Zp:=h
theorem bH.qen(h:Zp:=by
 clear f bV bq aw bv cf b1 cB aO ho cG cq cK cH aM;obtain⟨_,aY,aC,aL⟩:=av.o;go_enter func9,ntmps9;go_wp2_with fail;generalize (w.alloc (e9 R Z c1 aS n2 c2 aa ab c3)).alloc tO=aA at av HF cc bL HK HR aY aC aL⊢;refine yaj bL.o ?_;rintro e ag ⟨rfl,(bB:E _)⟩;have cW:E _:=IU ag R aS aa Z c1 n2 c2 ab c3 ins vs outs (HF.o.keep bB.o) cD.o;clear bL aY aC aL aT;obtain⟨_,aY,aC,aL⟩:=av.o.keep bB.o;go_wp2_with fail;refine yaj cW.o ?_;rintro e aF ⟨G,rfl,(cS:E _),dT,aR⟩;have aK:E _:=bB.o.trans aR;have aI:E _:=LU (LsI.keep cc.o aK.o) xaa;clear cW aY aC aL aR dT bB;obtain⟨_,aY,aC,aL⟩:=av.o.keep aK.o;go_wp2_with fail;refine yaj aI.o ?_;rintro e bc ⟨bY,bG,rfl,(ct:E _),bM⟩;have bO:E (Kept 0 0 aA bc):=aK.o.trans bM;have cu:E (PA bc G n2 (mB vs (eW vs outs n2) n2 n2)):=cS.o.keep bM yaa;have al:E (aA.heap.size<=aF.heap.size/\G<bc.heap.size/\aF.heap.size<=bc.heap.size):=⟨aK.o.size,cu.o.lt,bM.size⟩
 have aV:E _:=zv bc (.slice bY Z bG);have p:=ez 0 0 bc (.cells #[.slice bY Z bG,.slice none 0 0,.slice none 0 0,hA 0] 33);obtain⟨_,br,ay,a0⟩:=av.o.keep (bO.o.trans p);clear aI aY aC aL bM cS aK p;go_wp2_with fail;clear br ay a0;generalize bc.alloc (.cells #[.slice bY Z bG,.slice none 0 0,.slice none 0 0,hA 0] 33)=bp at aV⊢;obtain⟨C,bu⟩:∃C,C=bc.heap.size:=⟨_,rfl⟩
 rw[<-bu]at aV⊢;have bg:E _:=bu;clear bu;go_loopw [25] (λx W=>∃(i:Nat) (u:Value),i<=n2/\x=hA i/\E (LP W bc C (C+1) (.slice bY Z bG) u (.slice none 0 0) i 0 (fg vs (eW vs outs n2) i) (iu vs (eW vs outs n2) i) [])) (λx _=>n2-(intOf x).toNat)
 case atStart=>exact⟨0,_,yae,rfl,aV⟩
 case round=>
  obtain⟨i,u,hi,rfl,hP⟩:=hrel;clear aV;have Q:E (Kept 0 0 bc wr):=Chg.kept (Kept.refl 0 0 bc) hP.o.ch (λb hb=>hJ bg.o);obtain⟨_,aY,aC,aL⟩:=av.o.keep (bO.o.trans Q.o);by_cases aG:i<n2
  ·obtain⟨az,off,rfl,c6,_,_,a7⟩:=(HF.o.keep (bO.o.trans Q.o)).v.at_idx aG;have cy:=LT (vs:=vs) (ps:=eW vs outs n2) aG (cJ.o i aG);have cX:=cJ.o i aG;have y:=bN.o i aG;have cF:E (fg vs (eW vs outs n2) (i+1)=if fg vs (eW vs outs n2) i<(gz vs (eW vs outs n2) i).off+(gz vs (eW vs outs n2) i).len then (gz vs (eW vs outs n2) i).off+(gz vs (eW vs outs n2) i).len else fg vs (eW vs outs n2) i):=rfl;have J:E _:=zn vs (eW vs outs n2) i;have cg:=cu.o.keep Q.o yaa;obtain⟨b9,ae⟩:=cg.at_ i aG;rw[sw vs _ aG,hD aG]at b9 ae;rw[show(eW vs outs n2).getD i 0=(gz vs (eW vs outs n2) i).off from rfl]at cy
   have b2:E (∀W,Kept 0 0 wr W->Calls prog 28 #[(vs.getD i hF).agg,hA (gz vs (eW vs outs n2) i).off,hz G n2 n2] W λe B=>e=.returned (qy vs (eW vs outs n2) i).agg/\Kept 0 0 W B):=λW bJ=>by
    rw[<-cy]
    exact NV W 0 W.heap.size (some ⟨G,0,none⟩) n2 n2 (mB vs (eW vs outs n2) n2 n2) _ _ (cg.keep bJ yaa).ss (λq ap=>hJ (cX q ap))
   have a9:=cg.lt;obtain⟨bA,P⟩:∃bA,bA=fg vs (eW vs outs n2) i:=⟨_,rfl⟩
   rw[<-P]at hP cF;generalize qy vs (eW vs outs n2) i=st at b2 J;generalize gz vs (eW vs outs n2) i=s at b9 ae b2 y cF;generalize vs.getD i hF=v at a7 b2;obtain⟨ba,aP,y2,y3,y4,ck⟩:=a7;obtain⟨cj,c8,rfl⟩:=im hP.o.pu;have cp:=ez 0 0 wr (fH v.op v.len v.a v.b v.c v.k);have aq:E _:=hP.o.keep cp;obtain⟨bD,aQ,a8,bi,bk,K⟩:=i9 wr v;simp only[Nat.zero_add]at aQ a8 bi bk K;have cQ:=hP.o.bz;have bS:(wr.alloc (fH v.op v.len v.a v.b v.c v.k)).cell? ⟨G,i*2,none⟩=some (hA s.off):=by rw[cp.cell (p:=⟨G,i*2,none⟩) a9 xaa];exact b9
   have HE:E (∀W,Kept 0 0 wr W->W.cell? ⟨G,i*2,none⟩=some (hA s.off)/\W.cell? ⟨G,i*2+1,none⟩=some (hA s.len)):=λW bJ=>⟨by rw[bJ.cell (p:=⟨G,i*2,none⟩) a9 xaa];exact b9,by rw[bJ.cell (p:=⟨G,i*2+1,none⟩) a9 xaa];exact ae⟩
   have r:E (G<wr.heap.size/\wr.heap.size<(wr.alloc (fH v.op v.len v.a v.b v.c v.k)).heap.size):=⟨a9,by simp⟩
   clear cy cX cg a9 P hP b9 ae;go_upto_region 8 with fail;clear ba aP y2 y3 y4 ck aY aC aL;have I:E _:=cp;generalize wr.alloc (fH v.op v.len v.a v.b v.c v.k)=X at aq bD aQ a8 bi bk K bS I r⊢;clear cp;obtain⟨_,bz,bo,bw,bR,_,cn,_,_⟩:=aq.o.bx;have cM:0<=(i:Int):=xaa;have ce:(i:Int)<n2:=xaa;go_cut [] (λcd=>∃u9,E (LP cd bc C (C+1) (.slice bY Z bG) u9 (.slice none 0 0) (i+1) 0 bA (iu vs (eW vs outs n2) (i+1)) [])/\E (Chg (λb=>b=C\/C+1<=b) X cd))
   case first=>
    go_region_law (first
     |(refine step_append_lies _ rfl (.tmp 31) (.tmp 40) 30 rfl (C+1) 64 bW Ste.zero.agg 8 64 underlying30 c9 b4 b3 b0 rfl xab _ _ (lg (iu vs (eW vs outs n2) i)) (by simp[Act.eval]) (n.o.pu.alloc _) ⟨cl.heap.size,0,none⟩ 1 1 st.cells (by simp[Act.eval]) rfl (MW cl st 0) (PC st) xab (by unfold maxLen;omega) xaa (by have:=n.o.bz;simp;omega) _ rfl ?_;intro g9 cap9 bj bF aW bT cz;obtain⟨_,ci,m1,b7,m3,_,dd,_,df⟩:=LP.mid (z:=0) n.o yaf aW)
     |(go_simp;go_wp2_with (first|(go_at_call 28;refine yaj (b2.o _ (I.o.trans (eG X))) ?_;rintro e cl ⟨rfl,a2⟩;have bU:=(eG X).trans a2;have n:E _:=aq.o.keep bU;obtain⟨_,bn,aX,bb,co,_,aD,_,_⟩:=n.o.bx)|fail)))
    all_goals
     have bQ:(Value.slice cj i c8).ownBlock=some g9\/g9=cl.heap.size+1:=bT.imp (λh=>h) (λe=>e.trans xac)
     have H:=LP.putU (z:=0) (s:=st) n.o yaf bF aW bQ
     rw[<-J.o]at H
     have R1:E _:=H
     have R2:E (Chg (λb=>b=C\/C+1<=b) X (bj.setCell ⟨C,1,none⟩ (hz g9 (i+1) cap9))):=Chg.andThen (bU.trans (ez 0 0 cl st.box)).chg (Chg.andThen ((gh aW).mono λb _ hb=>.inr (eH n.o.pu hb).1) (fC bj C 1 _ (.inl rfl)))
     clear H bQ bT bF aW ci m1 b7 m3 dd df cz
     go_wp2_with fail
     go_meet
     exact⟨_,R1,R2⟩
   case rest=>
    obtain⟨u9,aB,aN⟩:=hcut;obtain⟨d1,d2,rfl⟩:=im aB.o.pu;clear bD aQ a8 bi bk K bS bz bo bw bR cn b2 J aq;have cx:¬(G=C\/C+1<=G):=hK al.o bg.o
    have bS:wc.cell? ⟨G,i*2,none⟩=some (hA s.off):=by
     rw[aN.o.cell (p:=⟨G,i*2,none⟩) (by have:=r.o;show G<_;omega) cx];exact(HE.o X I.o).1
    have aH:wc.cell? ⟨G,i*2+1,none⟩=some (hA s.len):=by
     rw[aN.o.cell (p:=⟨G,i*2+1,none⟩) (by have:=r.o;show G<_;omega) cx];exact(HE.o X I.o).2
    have d0:E (G<wc.heap.size):=yak (hJ r.o) aN.o.size;have ai:E (∀W,_):=λW=>lB W s (hK y.1 y.2);obtain⟨bd,ca⟩:∃bd,bd=fg vs (eW vs outs n2) (i+1):=⟨_,rfl⟩
    rw[<-ca]at cF;have dv:E _:=ca;clear ca cx;have cI:E _:=aB.o;clear aB aN HE r;go_upto_region 9 with fail;obtain⟨_,bz,bo,bw,bR,_,_,_,d4⟩:=cI.o.bx;rcases Decidable.em (bA<s.off+s.len) with an|an
    case' inl=>have cV:E (bd=s.off+s.len):=by show _=_;rw[cF.o,hD an]
    case' inr=>have cV:E (bd=bA):=by show _=_;rw[cF.o,hC an]
    all_goals
     clear cF
     go_region_with (first|(go_at_call 29;refine yaj (ai.o _) ?_;rintro e cl ⟨rfl,a2⟩;have n:E _:=cI.o.keep ((eG wc).trans a2);obtain⟨_,bn,aX,bb,co,_,_,_,d3⟩:=n.o.bx)|fail)
     all_goals
      go_wp2_with fail
      go_roundw;exact⟨i+1,_,by omega,by go_num,by show LP _ _ _ _ _ _ _ _ _ _ _ _;rw[<-dv.o,cV.o];exact n.o.putP yaf _⟩;simp[intOf];omega
  obtain rfl:i=n2:=xaa;go_wp2_with fail;clear aY aC aL;go_loopw [56] (λx W=>∃(k:Nat) (v':Value),k<=ab/\x=hA k/\E (LP W bc C (C+1) (.slice bY Z bG) u v' i k (fg vs (eW vs outs i) i) (iu vs (eW vs outs i) i) ((outs.take k).map (pH vs (eW vs outs i))))) (λx _=>ab-(intOf x).toNat)
  case atStart=>exact⟨0,_,yae,rfl,by rw[List.take_zero];exact hP⟩
  case round=>
   obtain⟨k,v',O,rfl,ad⟩:=hrel;clear hP Q;have Q:E (Kept 0 0 bc wr):=Chg.kept (Kept.refl 0 0 bc) ad.o.ch (λb hb=>hJ bg.o);obtain⟨_,aY,aC,aL⟩:=av.o.keep (bO.o.trans Q.o);obtain⟨_,bz,bo,bw,bR,_,_,f2,_⟩:=ad.o.bx;by_cases bK:k<ab
   ·exact qfw
   obtain rfl:k=ab:=xaa;obtain⟨U,bf,rfl⟩:=im ad.o.pu;obtain⟨a3,Y,rfl⟩:=im ad.o.pv;obtain⟨_,br,ay,a0,ch,bZ,b5,b6,eg⟩:=(HR.o.keep bO.o).keep Q.o;have bl:E (Kept 0 0 w wr):=HK.o.trans (bO.o.trans Q.o)
   have ds:E (OCd wr aF.heap.size (.slice bY Z bG) (.slice U i bf) (.slice a3 k Y) ins (iu vs (eW vs outs i) i) (outs.map (pH vs (eW vs outs i)))):=by
    have bv:=al.o;have ah:=bg.o;have ch:=ad.o.pv;rw[yap (by rw[cA.o.2.1];exact yad)]at ch;refine⟨?_,?_,?_,?_,?_,ad.o.ne,?_⟩
    ·rw[cA.o.2.2];exact eO ct.o Q.o
    ·rw[kK];exact iE ad.o.pu xaa
    ·rw[List.length_map,cA.o.2.1];exact iE ch xaa
    ·exact λg aJ b8=>hK ((eH ad.o.pu b8).1) ((eH ct.o aJ).2)
    ·exact λg aJ b8=>hK ((eH ad.o.pv b8).1) ((eH ct.o aJ).2)
    intro s au;unfold iu at au;obtain⟨q,_,rfl⟩:=List.mem_map.1 au;unfold qy;dsimp only;split
    ·exact JR bE.o q
    decide
   have cw:E (w.heap.size+1<aF.heap.size/\w.heap.size+1<wr.heap.size):=⟨hK HR.o.sz al.o,by have:=HR.o.sz;have:=bO.o.size;have:=Q.o.size;omega⟩
   have gy:w.heap.size+1<wr.heap.size:=cw.o.2;obtain⟨af,bC⟩:∃z,z=fg vs (eW vs outs i) i:=⟨_,rfl⟩
   rw[<-bC]at bR;have cU:E _:=bC;clear bC ad;by_cases ew:bud<af
   ·have cr:E _:=ew;go_wp2_with fail;obtain⟨ba,aP,y2,y3⟩:=xu wr (w.heap.size+1) _ _ _ _ br ay a0 ch (.slice none 0 0) (.slice none 0 0) (.slice none 0 0) (hA 0);have S:=oV wr (w.heap.size+1) (.slice none 0 0) (.slice none 0 0) (.slice none 0 0) (hA 0);refine yaz (v:=.tuple #[cnl,hA 7]) (by simp[results,results9,go_sem,ba,aP,y2,y3]) rfl ?_;unfold PLi;rw[<-cU.o];exact⟨λ_=>rfl,λh=>absurd cr.o h,bl.o.new S xaa⟩
   have cr:E _:=ew;go_wp2_with fail;obtain⟨ba,aP,y2,y3⟩:=xu wr (w.heap.size+1) _ _ _ _ br ay a0 ch (.slice bY Z bG) (.slice U i bf) (.slice a3 k Y) (hA af);have S:=oV wr (w.heap.size+1) (.slice bY Z bG) (.slice U i bf) (.slice a3 k Y) (hA af);refine yaz (v:=.tuple #[re bY Z bG U i bf a3 k Y af,hA 0]) (by simp[results,results9,go_sem,ba,aP,y2,y3]) rfl ?_;unfold PLi;rw[<-cU.o];exact⟨λh=>absurd h cr.o,λ_=>⟨_,_,_,_,_,_,rfl,(ds.o.keepC (S.chg1 (S:=λb=>b=w.heap.size+1) rfl) (λg F _ e=>hJ cw.o)).mono (hJ cw.o)⟩,bl.o.new S xaa⟩):Zp:=h
theorem bH.qfx(h:Zp:=by
 obtain⟨ed,dg,aj,rfl,ea,_,eb,cR⟩:=(HF.o.keep (bO.o.trans Q.o)).o.at_idx (o:=k) xaa xaa;obtain rfl:k=aj:=xaa;rw[Int.toNat_natCast,em]at cR;obtain⟨b9,ae⟩:=(cu.o.keep Q.o yaa).at_ m am;rw[sw vs _ am,hD am]at b9 ae
 have ar:E ((outs.take (k+1)).map (pH vs (eW vs outs i))=(outs.take k).map (pH vs (eW vs outs i))++[gz vs (eW vs outs i) m]):=by
  show _=_;rw[yau (hL cA.o.2.1 bK),List.map_append]
  have e:outs[k]'(hL cA.o.2.1 bK)=(m:Int):=by
   rw[<-em,yai,yam (hL cA.o.2.1 bK)];rfl
  rw[List.map_singleton,e];rfl
 generalize gz vs (eW vs outs i) m=s at b9 ae ar;have cQ:=ad.o.bz;obtain⟨cN,cO,rfl⟩:=im ad.o.pv;have a5:0<=(m:Int):=xaa;have bX:(m:Int)<i:=xaa;clear cT dc em;go_wp2_with fail;go_region_law ((refine step_append_lies _ rfl (.tmp 61) (.tmp 66) 31 rfl (C+1) 67 bm Spn.zero.agg 2 16 underlying31 bI cC bh bP rfl xab _ _ (fL ((outs.take k).map (pH vs (eW vs outs i)))) (by simp[Act.eval]) (kE ad.o.pv 1 _) ⟨wr.heap.size,0,none⟩ 1 1 s.cells (by simp[Act.eval]) rfl (MX wr s 1) (PD _) xab (by unfold maxLen;omega) xaa yag _ rfl ?_;intro g9 cap9 bj bF aW bT cz;obtain⟨_,aZ,ax,aU,bx,_,_,ei,_⟩:=LP.midV ad.o yaf aW))
 all_goals
  have bQ:(Value.slice cN k cO).ownBlock=some g9\/g9=wr.heap.size+1:=bT.imp (λh=>h) (λe=>by rw[e];show(wr.alloc _).heap.size=_;simp)
  have H:E _:=LP.putV (s:=s) ad.o yaf bF aW bQ
  rw[<-ar.o]at H
  clear bF aW bT bQ cz
  go_wp2
  go_roundw;exact⟨k+1,_,by omega,by go_num,H⟩;simp[intOf];omega):Zp:=h
open bH in
theorem vV(w R aS aa Z c1 n2 c2 ab c3 bud ins vs outs)(f:GS w R Z aS n2 aa ab ins vs outs)(aM:LsI w R Z c1 ins)(bV:okG ins vs outs=true):
  Calls prog 9 #[eZ R Z c1 aS n2 c2 aa ab c3,hA bud] w λe B=>PLi w Z n2 ab bud (fg vs (eW vs outs n2) n2) ins (iu vs (eW vs outs n2) n2) (outs.map (pH vs (eW vs outs n2))) e B:=by
 exact qeh
