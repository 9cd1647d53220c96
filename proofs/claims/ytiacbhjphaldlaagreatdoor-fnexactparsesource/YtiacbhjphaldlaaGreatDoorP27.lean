import Derived.Test.YtiacbhjphaldlaaGreatDoorP03
namespace Go.Proofs.Z
open Tryz Go.RowKit Flt
set_option maxRecDepth 1000000
set_option maxHeartbeats 0
variable{es a b d q e}
section
attribute[local go_sem] dI dG dF
variable{w:World}{g:Nat}{G:List Int}
structure YS(w:World)(a:Option Addr)(n:Nat)(xs:List Int):Prop where
 len:xs.length=n
 lt:∀x∈xs,0<=x/\x<256
 at_:n=0\/∃g off,a=some ⟨g,off,none⟩/\g<w.heap.size/\∀k,k<n->w.cell? ⟨g,off+k,none⟩=some (.int .u8 (xs.getD k 0))
theorem YS.keep{D n}(f:YS w a n G)(k:Kept 0 0 w D):YS D a n G:=
 ⟨f.len,f.lt,by
  obtain aC|⟨g,aO,e,al,bw⟩:=f.at_
  ·exact .inl aC
  ·exact .inr ⟨g,_,e,yaj al k.size,λj aK=>by rw[k.cell al xaa];grind⟩⟩
def YR(w:World)(g:Nat)(xs:List Int):Prop:=w.heap[g]? =some (.cells (xs.map (Value.int .u8)).toArray 5 (0,0))
theorem YR.lt(h:YR w g G):g<w.heap.size:=by
 grind[YR]
theorem YR.cell(h:YR w g G)(k)(H:k<G.length):w.cell? ⟨g,k,none⟩=some (.int .u8 (G.getD k 0)):=by
 rw[cell_of_row w g k _ _ _ h];grind
theorem YR.free(h:YR w g G)(k):w.frozen? ⟨g,k,none⟩=false:=frozen_of_row w g k _ _ h
theorem YR.set(h:YR w g G)(k x):YR (w.setCell ⟨g,k,none⟩ (.int .u8 x)) g (G.set k x):=by
 unfold YR at h⊢;exact qdk
theorem YR.made(w:World)(n):YR (w.alloc (.cells (madeCells #[.int .u8 0] n) 5)) w.heap.size (List.replicate n 0):=by
 unfold YR;rw[heap_alloc_new]
 have:(madeCells #[.int .u8 0] n)=(List.map (Value.int .u8) (List.replicate n 0)).toArray:=by
  apply Array.toList_inj.1;rw[toList_madeCells_one];simp
 rw[this]
theorem Oy:(prog.info? 5).map (λi=>(i.zero,i.size,i.bytes))=some (some (.int .u8 0),1,1):=by kernel_rfl
theorem BQ(G ys:List Int)(k)(H:k<G.length)(ab:ys.length=G.length):
  (G.take k++ys.drop k).set k (G.getD k 0)=G.take (k+1)++ys.drop (k+1):=by
 apply List.ext_getElem?;grind
theorem DY(n:Nat)(w)(V:n<=1099511627776):
  (Instr.makeSlice 22 (h0 n) (h0 n)).run prog w=.ok (hZ w.heap.size n n) (w.alloc (.cells (madeCells #[.int .u8 0] n) 5)):=by
 obtain⟨i,hi,ch,b6,ci⟩:=info_parts Oy;have:=run_make w 22 5 i _ underlying22 hi ch .i64 .i64 n n xaa xaa (by grind) xaa;exact qdj
theorem Ij(w aZ){aO}(n){cap G}(ar:G.length=n)(V:n<=1048576)(aG:aZ<w.heap.size)(aj:∀k,k<n->w.cell? ⟨aZ,aO+k,none⟩=some (.int .u8 (G.getD k 0))):
  Calls prog 5 #[.slice (some ⟨aZ,aO,none⟩) n cap] w λe D=>e=.returned (hZ w.heap.size n n)/\YR D w.heap.size G/\Kept 0 0 w D:=by
 have aR:=DY n w xaa;have a:(w.alloc (.cells (madeCells #[.int .u8 0] n) 5)).heap.size=w.heap.size+1:=by simp
 have b:=YR.made w n;have bd:=dE 0 0 w (.cells (madeCells #[.int .u8 0] n) 5);have aE:=Q aj;have be:=Q ar;clear aj ar;generalize bN:w.alloc _=aa at aR b bd a;clear bN;have bY:=Q a;clear a;go_enter func5,ntmps5;go_wp2_with fail;clear aR;go_loopw [4] (λi W=>∃k:Nat,k<=n/\i=h0 k/\YR W w.heap.size (G.take k++(List.replicate n 0).drop k)/\Kept 0 0 w W) (λi _=>n-(intOf i).toNat)
 case atStart=>grind
 case round=>
  obtain⟨k,H,rfl,a0,c⟩:=hrel;by_cases aV:k<n
  ·have c1:wr.cell? ⟨aZ,aO+k,none⟩=some (.int .u8 (G.getD k 0)):=by rw[c.cell aG xaa];exact aE.o k aV
   have ab:(G.take k++(List.replicate n 0).drop k).length=n:=by simp[be.o];omega
   have c2:=a0.cell k xaa;have c3:=a0.free k;have bm:M _:=a0.set k (G.getD k 0);have bP:M _:=c.new (d9 _ ⟨w.heap.size,k,none⟩ (.int .u8 (G.getD k 0)) yab) yac;clear a0 c b bd ab;go_wp2;go_roundw
   case rel=>
    refine⟨k+1,by omega,by go_num,?_,bP.o⟩;have:=bm.o;rw[BQ _ _ k (it be.o aV) (by simp[be.o])]at this;exact this
   case measure=>simp[intOf];omega
  obtain rfl:k=n:=xaa;clear b bd;go_wp2;go_ret;refine⟨rfl,?_,c⟩;have z:(G.take k++(List.replicate k 0).drop k)=G:=by rw[yao (ix be.o),List.drop_of_length_le xac,List.append_nil]
  grind
theorem DZ(w a){cap}:
  Calls prog 5 #[.slice a 0 cap] w λe D=>e=.returned (hZ w.heap.size 0 0)/\YR D w.heap.size []/\Kept 0 0 w D:=by
 have aR:=DY 0 w xaa;rw[show((0:Nat):Int)=0 from rfl]at aR;have b:=YR.made w 0;have bd:=dE 0 0 w (.cells (madeCells #[.int .u8 0] 0) 5);generalize bN:w.alloc _=aa at aR b bd;clear bN;go_enter func5,ntmps5;go_wp2_with fail;refine wp_loop_rounds 1 ?_;rw[rounds_succ];go_wp2;go_ret;exact⟨rfl,b,bd⟩
theorem xu(w a b){J l}:
  Calls prog 8 #[.slice a 0 J,.slice b 0 l] w λe D=>e=.returned (.bool true)/\D=w:=by
 go_enter func8,ntmps8;exact xbo
theorem Ik(w){bz ca aJ b6}(n){J l}{G:List Int}(V:n<=1099511627776)(ar:∀k,k<n->w.cell? ⟨bz,ca+k,none⟩=some (.int .u8 (G.getD k 0)))(aY:∀k,k<n->w.cell? ⟨aJ,b6+k,none⟩=some (.int .u8 (G.getD k 0))):
  Calls prog 8 #[.slice (some ⟨bz,ca,none⟩) n J,.slice (some ⟨aJ,b6,none⟩) n l] w λe D=>e=.returned (.bool true)/\Drawn w D:=by
 have be:=Q ar;have u:=Q aY;clear ar aY;go_enter func8,ntmps8;go_wp2_with fail;go_loopw [5] (λi W=>∃k:Nat,k<=n/\i=h0 k/\Drawn w W) (λi _=>n-(intOf i).toNat)
 case atStart=>exact⟨0,yad,rfl,Drawn.refl _⟩
 case round=>
  obtain⟨k,H,rfl,bC⟩:=hrel;by_cases aV:k<n
  ·have c1:wr.cell? ⟨bz,ca+k,none⟩=some (.int .u8 (G.getD k 0)):=by rw[bC.cell];exact be.o k aV
   have c2:wr.cell? ⟨aJ,b6+k,none⟩=some (.int .u8 (G.getD k 0)):=by rw[bC.cell];exact u.o k aV
   have K:(G.getD k 0 !=G.getD k 0)=false:=by simp
   generalize G.getD k 0=x at c1 c2 K;go_wp2_with fail;try go_quiet (fail)
   try go_wp2
   go_roundw
   case rel=>exact⟨k+1,by omega,by go_num,by first|exact bC|exact bC.more _⟩
   case measure=>simp[intOf];omega
  go_wp2;go_ret;exact⟨rfl,bC⟩
theorem eqY{w}(n){J l G}(f:YS w a n G)(g:YS w b n G)(V:n<=1099511627776):
  Calls prog 8 #[.slice a n J,.slice b n l] w λe D=>e=.returned (.bool true)/\Drawn w D:=by
 obtain rfl|⟨bz,ca,rfl,a3,a4⟩:=f.at_
 ·exact(xu w a b).mono λ_ _ h=>⟨h.1,0,h.2⟩
 obtain rfl|⟨aJ,b6,rfl,U,ae⟩:=g.at_
 ·exact(xu w _ b).mono λ_ _ h=>⟨h.1,0,h.2⟩
 exact Ik w n V a4 ae
end
section
variable{G:List Int}{t:List UInt8}{k i j:Nat}{p b:Int}
def dig(c:Int):Bool:=decide (48<=c)&&decide (c<=57)
theorem mS{c}(h:dig c=true):48<=c/\c<=57:=by simp[dig]at h;exact h
theorem vt:dig 46=false:=xab
structure GoodAt(xs:List Int)(p:Int):Prop where
 pos:0<xs.length
 point:∀i,i<xs.length->(xs.getD i 0=46↔(i:Int)=p)
 digit:∀i,i<xs.length->xs.getD i 0≠46->dig (xs.getD i 0)=true
 place:p=-1\/(0<p/\p+1<xs.length)
def my(xs:List Int):Prop:=∃p,GoodAt xs p
def nst(s:Int×Int×Bool)(c:Int):Int×Int×Bool:=if c=46 then (s.1,s.2.1,true)else (s.1*10+(c-48),if s.2.2 then s.2.1*10 else s.2.1,s.2.2)
def nds(xs:List Int):Int×Int×Bool:=xs.foldl nst (0,1,false)
theorem ua{G:List Int}(k)(H:k<G.length):G.take (k+1)=G.take k++[G.getD k 0]:=by
 simp_all
theorem o6(G:List Int)(k)(H:k<G.length):nds (G.take (k+1))=nst (nds (G.take k)) (G.getD k 0):=by
 rw[ua k H,nds,List.foldl_append];rfl
theorem o9(q)(G:List Int)(k)(H:k<G.length):(G.take (k+1)).countP q=(G.take k).countP q+if q (G.getD k 0)then 1 else 0:=by
 rw[ua k H,List.countP_append];grind
theorem ub(G:List Int)(h:∀i,i<G.length->G.getD i 0≠46->dig (G.getD i 0)=true):∀k,k<=G.length->
  0<=(nds (G.take k)).1/\(nds (G.take k)).1<10 ^ k/\1<=(nds (G.take k)).2.1/\(nds (G.take k)).2.1<=10 ^ k
 |0,_=>by simp[nds]
 |k+1,H=>by
  obtain⟨z,J,al,bw⟩:=ub _ h k xaa
  have aB:(10:Int) ^ (k+1)=10 ^ k*10:=xaa
  rw[o6 _ k xaa,aB]
  unfold nst
  by_cases c:G.getD k 0=46
  ·grind
  ·rw[h2 c]
   have:=mS (h k xaa c)
   grind
theorem Oz(h:k<=16):(10:Int) ^ k<=10000000000000000:=by
 have:(10:Int) ^ k<=10 ^ 16:=by
  have e:((10 ^ k:Nat):Int)<=(10 ^ 16:Nat):=Int.ofNat_le.2 (Nat.pow_le_pow_right xab h);simpa using e
 omega
theorem pT{G:List Int}(h:∀i,i<G.length->G.getD i 0≠46->dig (G.getD i 0)=true)(k)(H:k<=G.length)(a:k<=16):
  0<=(nds (G.take k)).1/\(nds (G.take k)).1<=10000000000000000/\1<=(nds (G.take k)).2.1/\(nds (G.take k)).2.1<=10000000000000000:=by
 obtain⟨z,J,al,bw⟩:=ub _ h k H;have:=Oz a;omega
theorem r8(G:List Int)(h:∀i,i<G.length->G.getD i 0≠46->dig (G.getD i 0)=true):∀k,k<=G.length->
  (G.take k).countP dig+(G.take k).countP (· ==46)=k
 |0,_=>by simp
 |k+1,H=>by
  have D:=r8 _ h k xaa
  grind[o9,vt]
theorem GoodAt.points(h:GoodAt G p):∀k,k<=G.length->(G.take k).countP (· ==46)=if 0<=p/\p<k then 1 else 0
 |0,_=>by grind
 |k+1,H=>by
  rw[o9 _ _ k xaa,h.points k xaa]
  by_cases c:G.getD k 0=46
  ·have:=(h.point k xaa).1 c
   grind
  ·have:¬k=p:=λe=>c ((h.point k xaa).2 e)
   grind
theorem GoodAt.short(h:GoodAt G p)(aT:G.countP dig<=15):G.length<=16:=by
 have z:=r8 _ h.digit _ yac;have J:=h.points _ yac;grind
theorem GoodAt.behind(h:GoodAt G p):∀k,k<=G.length->(nds (G.take k)).2.2=decide (0<=p/\p<k)
 |0,_=>by rw[yaw xaa];rfl
 |k+1,H=>by
  have D:=h.behind k xaa
  rw[o6 _ k xaa]
  unfold nst
  by_cases c:G.getD k 0=46
  ·have:=(h.point k xaa).1 c
   grind
  ·have:¬k=p:=λe=>c ((h.point k xaa).2 e)
   grind
def RN(xs:List Int)(f:Nat)(c:Int):Prop:=
 (¬my xs/\f=0/\c=2)\/(my xs/\15<xs.countP dig/\f=0/\c=5)\/
 (my xs/\xs.countP dig<=15/\f<18446744073709551616/\fb f=fb (cop .quo (floatOfInt .f64 (nds xs).1) (floatOfInt .f64 (nds xs).2.1))/\c=0)
structure Mid(xs:List Int)(k:Nat)(p:Int)(dg:Int):Prop where
 count:dg=((xs.take k).countP dig:Nat)
 point:∀i,i<k->(xs.getD i 0=46↔(i:Int)=p)
 digit:∀i,i<k->xs.getD i 0≠46->dig (xs.getD i 0)=true
 place:p=-1\/(0<=p/\p<k)
theorem BT{G}:Mid G 0 (-1) 0:=⟨rfl,λi hi=>by omega,λi hi=>by omega,.inl rfl⟩
theorem Mid.digitStep(h:Mid G k p b)(H:k<G.length)(aT:dig (G.getD k 0)=true):Mid G (k+1) p (b+1):=by
 have V:G.getD k 0≠46:=λe=>by rw[e]at aT;cases aT
 refine⟨?_,?_,?_,?_⟩
 ·rw[o9 _ _ k H,aT,h.count];simp
 ·intro i hi;by_cases e:i=k
  ·subst e;refine⟨λc=>absurd c V,λc=>?_⟩;obtain q|q:=h.place<;>omega
  exact h.point i xaa
 ·exact xhq
 obtain q|q:=h.place<;>grind
theorem Mid.pointStep(h:Mid G k p b)(H:k<G.length)(aT:G.getD k 0=46)(aB:p<0):Mid G (k+1) k b:=by
 refine⟨?_,?_,?_,?_⟩
 ·rw[o9 _ _ k H,aT,vt,h.count];simp
 ·intro i hi;by_cases e:i=k
  ·simp_all
  refine⟨λc=>?_,λc=>by omega⟩;have:=(h.point i xaa).1 c;omega
 ·exact xhq
 omega
theorem Mid.bad(h:Mid G k p b)(H:k<G.length)(aT:dig (G.getD k 0)=false)(I:G.getD k 0≠46\/0<=p):¬my G:=by
 rintro⟨q,g⟩;by_cases c:G.getD k 0=46
 ·obtain I|I:=I
  ·exact I c
  have K:=(g.point k H).1 c;obtain aC|aC:=h.place
  ·omega
  obtain⟨m,rfl⟩:=Int.eq_ofNat_of_zero_le aC.1;have z:=(h.point m xaa).2 rfl;have:=(g.point m xaa).1 z;omega
 have:=g.digit k H c;grind
theorem Mid.good(h:Mid G G.length p b)(aC:0<G.length)(z:p≠0)(J:p≠(G.length:Int)-1):GoodAt G p:=
 ⟨aC,h.point,h.digit,by obtain q|q:=h.place<;>omega⟩
theorem Mid.notGood(h:Mid G G.length p b)(I:G.length=0\/p=0\/p=(G.length:Int)-1)(aC:0<G.length->0<=p):¬my G:=by
 rintro⟨q,g⟩;have aB:=g.pos;have:=aC aB;obtain⟨m,rfl⟩:=Int.eq_ofNat_of_zero_le this;have aR:m<G.length:=xaa;have z:=(h.point m aR).2 rfl;have:=(g.point m aR).1 z;obtain q|q:=g.place<;>omega
def bt(t:List UInt8)(k:Nat):Int:=((t.getD k 0).toNat:Int)
def jy(x:Int):Bool:=decide (97<=x)&&decide (x<=122)||x==95
def jz(x:Int):Bool:=jy x||dig x
def od(x:Int):Bool:=x==32||x==9||x==13||x==10
def j9(x:Int):Bool:=!(x==10)
def eF(p:Int->Bool)(t:List UInt8)(j:Nat):Nat:=if j<t.length/\p (bt t j)=true then eF p t (j+1)else j
termination_by t.length-j
decreasing_by omega
theorem jq{p}(h:¬(j<t.length/\p (bt t j)=true)):eF p t j=j:=by rw[eF,h2 h]
theorem nz{p}(z:j<t.length)(J:p (bt t j)=true):eF p t j=eF p t (j+1):=by rw[eF,h3 ⟨z,J⟩]
theorem mz(p t j):j<=eF p t j:=by
 rw[eF];split
 ·have:=mz p t (j+1);omega
 omega
termination_by t.length-j
decreasing_by omega
theorem iC(p t j)(h:j<=t.length):eF p t j<=t.length:=by
 rw[eF];split
 ·exact iC p t _ xaa
 exact h
termination_by t.length-j
decreasing_by omega
theorem iV{p}(z:j<t.length)(J:p (bt t j)=true):j<eF p t j:=by
 grind[nz,mz]
theorem l6{p t}(j):∀k,j<=k->k<eF p t j->p (bt t k)=true:=by
 intro k z J;rw[eF]at J;split at J
 ·rename_i c;by_cases e:k=j
  ·grind
  exact l6 _ k xaa J
 omega
termination_by t.length-j
decreasing_by omega
def skM(t:List UInt8)(i:Nat):Nat:=
 if h:i<t.length then
  if od (bt t i)=true then skM t (i+1)
  else if _h2:bt t i=35 then skM t (eF j9 t i)else i
 else i
termination_by t.length-i
decreasing_by
 ·omega
 ·grind[iV,j9]
theorem Ax(h:¬i<t.length):skM t i=i:=by rw[skM,dif_neg h]
theorem uc(h:i<t.length)(z:od (bt t i)=true):skM t i=skM t (i+1):=by rw[skM,dif_pos h,h3 z]
theorem xy(h:i<t.length)(z:bt t i=35):skM t i=skM t (eF j9 t i):=by
 rw[skM,dif_pos h,h2 (by rw[z];decide),dif_pos z]
theorem xz(h:i<t.length)(z:od (bt t i)=false)(J:bt t i≠35):skM t i=i:=by
 grind[skM]
theorem mA(t i):i<=skM t i:=by
 rw[skM];split
 ·rename_i h;split
  ·have:=mA t (i+1);omega
  split
  ·rename_i J;have al:=iV (p:=j9) h (by rw[J];decide);have:=mA t (eF j9 t i);omega
  omega
 omega
termination_by t.length-i
decreasing_by
 ·omega
 ·omega
theorem vu(t i)(hi:i<=t.length):skM t i<=t.length:=by
 rw[skM];split
 ·rename_i h;split
  ·exact vu t _ xaa
  split
  ·rename_i J;have al:=iV (p:=j9) h (by rw[J];decide);exact vu t _ (iC _ _ _ hi)
  omega
 omega
termination_by t.length-i
decreasing_by
 ·omega
 ·omega
structure Tok where
 sym:List UInt8
 pos:Nat
 text:List UInt8
def h8:Tok:=⟨[],0,[]⟩
def fJ(t:List UInt8)(i j:Nat):List UInt8:=(t.drop i).take (j-i)
theorem kJ(h:j<=t.length):(fJ t i j).length=j-i:=by
 grind[fJ]
def eu:List UInt8:=[110,97,109,101]
def fx:List UInt8:=[105,110,116]
def iS:List UInt8:=[100,101,99]
def keysL:List (List UInt8):=[[105,110],[108,101,116],[111,117,116],[100,101,102],[114,101,112,101,97,116],[101,120,112],[115,117,109],[109,97,120],[100,111,116],[115,101,108],[102,105,108,108],[112,105,99,107],[112,117,116],[103,114,97,100],[106,118,112]]
def onesL:List UInt8:=[43,45,42,47,40,41,44,59,58,61]
def jQ(s:List UInt8):List UInt8:=if s∈keysL then s else eu
def iD(x:UInt8):List UInt8:=if x∈onesL then[x] else[]
def jl(t:List UInt8)(i:Nat):Nat:=if eF dig t i+1<t.length/\bt t (eF dig t i)=46/\dig (bt t (eF dig t i+1))=true then eF dig t (eF dig t i+1)else eF dig t i
def mB(t:List UInt8)(i:Nat):List UInt8:=if eF dig t i+1<t.length/\bt t (eF dig t i)=46/\dig (bt t (eF dig t i+1))=true then iS else fx
def nxE(t:List UInt8)(i:Nat):Nat:=if jy (bt t i)=true then eF jz t i else if dig (bt t i)=true then jl t i else i+1
def nxT(t:List UInt8)(i:Nat):Tok:=
 if jy (bt t i)=true then⟨jQ (fJ t i (eF jz t i)),i,fJ t i (eF jz t i)⟩
 else if dig (bt t i)=true then⟨mB t i,i,fJ t i (jl t i)⟩
 else⟨iD (t.getD i 0),i,iD (t.getD i 0)⟩
theorem pd(h:i<t.length)(aT:dig (bt t i)=true):i<jl t i:=by
 grind[jl,mz,eF]
theorem pe(h:i<t.length):jl t i<=t.length:=by
 grind[iC,jl]
theorem oz(h:i<t.length):i<nxE t i:=by
 grind[nxE,iV,jz,pd]
theorem D0(h:i<t.length):nxE t i<=t.length:=by
 grind[nxE,iC,pe]
def jx(t:List UInt8)(i:Nat):List Tok:=
 if _h:i<t.length then
  if (nxT t i).sym=[] then[nxT t i]else nxT t i::jx t (skM t (nxE t i))
 else[]
termination_by t.length-i
decreasing_by
 grind[oz,mA]
theorem ud(h:¬i<t.length):jx t i=[]:=by rw[jx,dif_neg h]
theorem ue(h:i<t.length)(z:(nxT t i).sym=[]):jx t i=[nxT t i]:=by rw[jx,dif_pos h,h3 z]
theorem xA(h:i<t.length)(z:(nxT t i).sym≠[]):jx t i=nxT t i::jx t (skM t (nxE t i)):=by rw[jx,dif_pos h,h2 z]
theorem uf(t i):(jx t i).length<=t.length-i:=by
 rw[jx];split
 ·rename_i h;split
  ·simp;omega
  have z:=oz h;have J:=mA t (nxE t i);have al:=uf t (skM t (nxE t i));grind
 simp
termination_by t.length-i
decreasing_by omega
def eK(t:List UInt8):List Tok:=jx t (skM t 0)
theorem l7(t):(eK t).length<=t.length:=by
 grind[uf,eK]
theorem kD(c w):Calls prog 31 #[.int .u8 c] w λe D=>e=.returned (.bool (dig c))/\D=w:=by
 by_cases z:48<=c
 ·have e:dig c=decide (c<=57):=by unfold dig;rw[decide_eq_true z];rfl
  exact xhj
 have e:dig c=false:=by unfold dig;rw[yaw z];rfl
 have t:=yaw z;exact xhj
theorem xB(w a){cap}:
  Calls prog 14 #[.slice a 0 cap] w λe D=>e=.returned (.tuple #[.float .f64 0,h0 2])/\Drawn w D:=by
 go_enter func14,ntmps14;go_wp2_with fail;refine wp_loop_rounds 1 ?_;rw[rounds_succ];go_wp2;go_ret2
 exact⟨rfl,Drawn.refl _⟩
theorem ug(H:k<G.length)(h:G.getD k 0=46):(nds (G.take (k+1))).1=(nds (G.take k)).1/\(nds (G.take (k+1))).2.1=(nds (G.take k)).2.1/\(nds (G.take (k+1))).2.2=true:=by
 grind[o6,nst]
theorem uh(H:k<G.length)(h:G.getD k 0≠46):(nds (G.take (k+1))).1=(nds (G.take k)).1*10+(G.getD k 0-48)/\(nds (G.take (k+1))).2.1=(if (nds (G.take k)).2.2 then (nds (G.take k)).2.1*10 else (nds (G.take k)).2.1)/\(nds (G.take (k+1))).2.2=(nds (G.take k)).2.2:=by
 grind[o6,nst]
theorem zd(w g){aO}(n){cap G}(ar:G.length=n)(aC:0<n)(V:n<=1048576)(aV:∀x∈G,0<=x/\x<256)(aj:∀k,k<n->w.cell? ⟨g,aO+k,none⟩=some (.int .u8 (G.getD k 0))):
  Calls prog 14 #[.slice (some ⟨g,aO,none⟩) n cap] w λe D=>∃f c,e=.returned (.tuple #[.float .f64 f,h0 c])/\RN G f c/\Drawn w D:=by
 have aE:=Q aj;have be:=Q ar;have bf:=Q aV;clear aj ar aV;go_enter func14,ntmps14;go_wp2_with fail;go_loopw [4,5,6] (λcP C bF W=>∃(k:Nat) (p b:Int),k<=n/\cP=h0 p/\C=h0 b/\bF=h0 k/\M (Mid G k p b)/\(0<=b/\b<=k/\-1<=p/\p<n)/\Drawn w W) (λ_ _ bF _=>n-(intOf bF).toNat)
 case atStart=>exact⟨0,_,0,yad,rfl,rfl,rfl,BT,⟨by omega,by omega,by omega,by omega⟩,Drawn.refl _⟩
 case round=>
  obtain⟨k,p,b,H,rfl,rfl,rfl,bH,⟨ah,aW,Y,J⟩,bC⟩:=hrel;by_cases aV:k<n
  ·have c1:wr.cell? ⟨g,aO+k,none⟩=some (.int .u8 (G.getD k 0)):=by rw[bC.cell];exact aE.o k aV
   have aJ:M _:=kD (G.getD k 0) wr;have y:k<G.length:=it be.o aV
   cases t:dig (G.getD k 0)
   ·by_cases u:G.getD k 0=46
    ·by_cases aB:p<0
     ·have R:M _:=bH.o.pointStep y u aB;rw[u]at c1 aJ;rw[vt]at aJ;clear t u bH;exact xgv
     have R:M (RN _ 0 2):=.inl ⟨bH.o.bad y t (.inr xaa),rfl,rfl⟩;have ap:=aB;rw[u]at c1 aJ;rw[vt]at aJ;exact xfr
    have R:M (RN _ 0 2):=.inl ⟨bH.o.bad y t (.inl u),rfl,rfl⟩;have bu:=yam u;rw[t]at aJ;generalize G.getD k 0=x at c1 aJ bu;exact xfr
   have R:M _:=bH.o.digitStep y t;rw[t]at aJ;generalize G.getD k 0=x at c1 aJ;clear t bH;exact xgv
  obtain rfl:k=n:=xaa;have bl:Mid G G.length p b:=it be.o bH.o
  by_cases q:p=0
  ·have R:M (RN _ 0 2):=.inl ⟨bl.notGood (.inr (.inl q)) (λ_=>by omega),rfl,rfl⟩;subst q;clear bH bl;go_wp2;go_ret2
   exact⟨0,2,rfl,R.o,bC⟩
  by_cases aq:p=k-1
  ·have R:M (RN _ 0 2):=.inl ⟨bl.notGood (.inr (.inr (it be.o aq))) (λ_=>by omega),rfl,rfl⟩;have ba:=yam q;have bu:(p==k-1)=true:=by grind
   clear bH bl;go_wp2;go_ret2
   exact⟨0,2,rfl,R.o,bC⟩
  have bL:=bl.good (it be.o aC) q (it be.o aq)
  have Z:b=(G.countP dig:Nat):=by
   have:=bl.count;rw[yao yac]at this;exact this
  have ba:=yam q;have bu:=yam aq;have bJ:((k:Int)==0)=false:=yam xaa;by_cases r:15<b
  ·have R:M (RN _ 0 5):=.inr (.inl ⟨⟨p,bL⟩,by omega,rfl,rfl⟩);clear bH bl bL Z;go_wp2;go_ret2
   exact⟨0,5,rfl,R.o,bC⟩
  have s:=bL.short xaa;have br:=Q bL;have z:M (G.countP dig<=15):=by show _<=_;omega
  have F:k<=16:=by rw[be.o]at s;exact s
  clear bH bl bL Z s;go_wp2_with fail;go_loopw [7,8,9] (λbG C bF W=>∃(j:Nat) (N aA:Int),j<=k/\bG=h0 N/\C=h0 aA/\bF=h0 j/\M (N=(nds (G.take j)).1/\aA=(nds (G.take j)).2.1)/\Drawn w W) (λ_ _ bF _=>k-(intOf bF).toNat)
  case atStart=>exact⟨0,0,1,yad,rfl,rfl,rfl,⟨rfl,rfl⟩,bC⟩
  case round=>
   obtain⟨j,N,aA,aK,rfl,rfl,rfl,a,o⟩:=hrel;obtain⟨L,bi,U,ae⟩:=pT br.o.digit j (it be.o aK) xaa;rw[<-a.o.1]at L bi;rw[<-a.o.2]at U ae;by_cases h:j<k
   ·have c1:wr.cell? ⟨g,aO+j,none⟩=some (.int .u8 (G.getD j 0)):=by rw[o.cell];exact aE.o j h
    have l:j<G.length:=it be.o h
    by_cases v:j=p
    ·have u:=(br.o.point j l).2 v
     have R:M (N=(nds (G.take (j+1))).1/\aA=(nds (G.take (j+1))).2.1):=by
      obtain⟨bg,a8,_⟩:=ug l u;exact⟨a.o.1.trans bg.symm,a.o.2.trans a8.symm⟩
     have I:(j !=p)=false:=by simp[v]
     clear a c1;go_wp2;go_roundw
     case rel=>exact⟨j+1,N,aA,by omega,rfl,rfl,by go_num,R,o⟩
     case measure=>simp[intOf];omega
    have u:G.getD j 0≠46:=λc=>v ((br.o.point j l).1 c);have aT:=mS (br.o.digit j l u);obtain⟨bg,a8,_⟩:=uh l u;rw[br.o.behind j xaa]at a8;have I:(j !=p)=true:=by simp[v]
    by_cases m:0<=p/\p<j
    ·rw[decide_eq_true m]at a8
     have R:M (N*10+(G.getD j 0-48)=(nds (G.take (j+1))).1/\aA*10=(nds (G.take (j+1))).2.1):=by
      refine⟨?_,?_⟩
      ·rw[bg,a.o.1]
      rw[a8,a.o.2];rfl
     clear bg a8 u a;generalize G.getD j 0=x at c1 aT R;have A:=m.1;have B:=m.2;go_wp2;go_roundw
     case rel=>exact⟨j+1,_,_,by omega,by go_num,by go_num,by go_num,R,o⟩
     case measure=>simp[intOf];omega
    rw[yaw m]at a8
    have R:M (N*10+(G.getD j 0-48)=(nds (G.take (j+1))).1/\aA=(nds (G.take (j+1))).2.1):=by
     refine⟨?_,?_⟩
     ·rw[bg,a.o.1]
     rw[a8,a.o.2];rfl
    clear bg a8 u a;generalize G.getD j 0=x at c1 aT R;by_cases A:0<=p
    ·have B:¬(p<j):=λc=>m ⟨A,c⟩;exact xfy
    exact xfy
   obtain rfl:j=k:=xaa;have e:=yao (by rw[be.o];exact yac);rw[e]at a;have R:M (∀W:World,RN _ (fop _ (floatOfInt _ N) (floatOfInt _ aA) W) 0):=λW=>.inr (.inr ⟨⟨p,br.o⟩,z.o,Dc,by rw[Db,a.o.1,a.o.2],rfl⟩);have an:=λW=>wO (P:=prog) W 40 (floatOfInt .f64 N) (floatOfInt .f64 aA);clear a e;go_wp2;go_ret2
   exact⟨_,0,rfl,R.o _,o.more _⟩
theorem pU(w){a n cap G}(f:YS w a n G)(V:n<=1048576):
  Calls prog 14 #[.slice a n cap] w λe D=>∃f c,e=.returned (.tuple #[.float .f64 f,h0 c])/\RN G f c/\Drawn w D:=by
 obtain aC|aC:=Nat.eq_zero_or_pos n
 ·subst aC;have:=List.length_eq_zero_iff.1 f.len;subst this;exact(xB w a).mono λ_ _ h=>⟨0,2,h.1,.inl ⟨λ⟨_,g⟩=>by have:=g.pos;grind,rfl,rfl⟩,h.2⟩
 obtain h|⟨g,aO,rfl,al,bw⟩:=f.at_
 ·omega
 exact zd w g n f.len aC V f.lt bw
end
section
attribute[local go_sem] dI dG dF
structure TxS(w:World)(g off n:Nat)(t:List UInt8):Prop where
 len:t.length=n
 lt:g<w.heap.size
 at_:∀k,k<n->w.cell? ⟨g,off+k,none⟩=some (.int .u8 (bt t k))
theorem TxS.keep{w D g aO n t}(h:TxS w g aO n t)(k:Kept 0 0 w D):TxS D g aO n t:=
 ⟨h.len,yaj h.lt k.size,λj aK=>(k.cell (p:=⟨g,aO+j,none⟩) h.lt xaa).trans (h.at_ j aK)⟩
theorem mT(c w):Calls prog 55 #[.int .u8 c] w λe D=>e=.returned (.bool (jy c))/\D=w:=by
 cases z:decide (97<=c)
 ·have e:jy c=(c==95):=by unfold jy;rw[z];rfl
  exact xey
 cases J:decide (c<=122)
 ·have e:jy c=(c==95):=by unfold jy;rw[z,J];rfl
  exact xey
 have e:jy c=true:=by unfold jy;rw[z,J];rfl
 exact xey
theorem D1(w g){aO}(n cap t)(f:TxS w g aO n t)(i)(hi:i<=n)(V:n<=1000000):
  Calls prog 28 #[.slice (some ⟨g,aO,none⟩) n cap,h0 i] w λe D=>e=.returned (h0 (skM t i:Nat))/\D=w:=by
 have bk:=Q f;obtain⟨E,l⟩:∃E,E=skM t i:=⟨_,rfl⟩
 rw[<-l];have bS:=Q l.symm;clear f l;go_enter func28,ntmps28;go_wp2_with fail;go_loopw [1] (λbF W=>W=w/\∃k:Nat,k<=n/\bF=h0 k/\M (skM t k=E)) (λbF _=>n-(intOf bF).toNat)
 case atStart=>exact⟨rfl,i,hi,rfl,bS⟩
 case round=>
  obtain⟨rfl,k,H,rfl,bd⟩:=hrel;by_cases aV:k<n
  ·have c1:=bk.o.at_ k aV;have q:M (k<t.length):=by show _<_;rw[bk.o.len];exact aV
   by_cases I:od (bt t k)=true
   ·have R:M _:=(uc q.o I).symm.trans bd.o;unfold od at I;generalize bt t k=x at c1 I;cases ba:(x==32)
    ·cases bu:(x==9)
     ·cases co:(x==13)
      ·have bs:(x==10)=true:=by simpa[ba,bu,co] using I
       exact xcz
      exact xcz
     exact xcz
    exact xcz
   have i1:od (bt t k)=false:=by simpa using I
   by_cases a:bt t k=35
   ·have aF:M _:=(xy q.o a).symm.trans bd.o;have br:M (k<eF j9 t k/\eF j9 t k<=t.length):=⟨iV q.o (by rw[a];decide),iC _ _ _ (Nat.le_of_lt q.o)⟩
    obtain⟨b,y⟩:∃b,b=eF j9 t k:=⟨_,rfl⟩
    rw[<-y]at aF br;have u:=Q y.symm;rw[a]at c1;clear y I i1 a bd;go_wp2_with fail;go_loopw [1] (λbF W=>W=wr/\∃j:Nat,j<=n/\bF=h0 j/\M (eF j9 t j=b)) (λbF _=>n-(intOf bF).toNat)
    case atStart=>exact⟨rfl,k,H,rfl,u⟩
    case round=>
     rename World=>W0
     obtain⟨rfl,j,aK,rfl,m⟩:=hrel;by_cases C:j<n
     ·have c2:=bk.o.at_ j C;have c:M (j<t.length):=by show _<_;rw[bk.o.len];exact C
      cases aZ:(bt t j==10)
      ·have R:M _:=(nz c.o (by unfold j9;rw[aZ];rfl)).symm.trans m.o;generalize bt t j=x at c2 aZ;have L:(x !=10)=true:=by unfold bne;rw[aZ];rfl
       clear aZ;go_wp2;exact xgq
      have R:M _:=(jq (λh=>by have:=h.2;unfold j9 at this;rw[aZ]at this;cases this)).symm.trans m.o;obtain rfl:=R.o;generalize bt t j=x at c2 aZ;have L:(x !=10)=false:=by unfold bne;rw[aZ];rfl
      clear aZ;exact xfz
     have R:M _:=(jq (λh=>ih bk.o.len)).symm.trans m.o;obtain rfl:=R.o;exact xfz
   have R:M _:=(xz q.o i1 a).symm.trans bd.o;obtain rfl:=R.o;unfold od at i1;have bJ:(bt t k==35)=false:=by simpa using a
   generalize bt t k=x at c1 i1 bJ;simp only[Bool.or_eq_false_iff]at i1;obtain⟨⟨⟨ba,bu⟩,co⟩,bs⟩:=i1;clear a I;go_wp2;go_ret;exact⟨rfl,rfl⟩
  have R:M _:=(Ax (it bk.o.len aV)).symm.trans bd.o;obtain rfl:=R.o;go_wp2;go_ret;exact⟨rfl,rfl⟩
end
section
variable{s x p y aX:List UInt8}{n j:Nat}{t c o:Tok}{ts us:List Tok}{r:List (List UInt8)}
def eE:List UInt8:=[83,84,77,84,83]
def ig:List UInt8:=[80,65,82,65,77,83]
def fi:List UInt8:=[77,79,82,69,80,65,82,65,77,83]
def d6:List UInt8:=[69,88,80,82]
def fd:List UInt8:=[77,79,82,69,84,69,82,77,83]
def ja:List UInt8:=[84,69,82,77]
def eW:List UInt8:=[77,79,82,69,85,78,65,82,89]
def ot:List UInt8:=[67,65,76,76]
def kR:List UInt8:=[65,82,71,83]
def gg:List UInt8:=[77,79,82,69,65,82,71,83]
def fo:List UInt8:=[85,78,65,82,89]
def jt(s:List UInt8):List (List UInt8):=
 if s=[45] then[[45],fo] else
 if s=[110,97,109,101] then[[110,97,109,101],ot] else
 if s=[40] then[[40],d6,[41]] else
 if s=[101,120,112]\/s=[115,117,109] then[s,[40],d6,[41]] else
 if s=[109,97,120]\/s=[100,111,116] then[s,[40],d6,[44],d6,[41]] else
 if s=[115,101,108] then[s,[40],d6,[44],d6,[44],d6,[41]] else
 if s=[102,105,108,108]\/s=[112,105,99,107] then[s,[40],d6,[44],[105,110,116],[41]] else
 if s=[112,117,116] then[s,[40],d6,[44],[105,110,116],[44],[105,110,116],[41]] else
 if s=[103,114,97,100] then[s,[40],d6,[44],[110,97,109,101],[41]] else
 if s=[106,118,112] then[s,[40],d6,[44],[110,97,109,101],[44],d6,[41]] else
 if s=[100,101,99] then[[100,101,99]] else
 [[105,110,116]]
def fg(p s:List UInt8):List (List UInt8):=
 if p=eE then (if s=[105,110] then[[105,110],[110,97,109,101],[58],[105,110,116],[59],eE]else if s=[108,101,116] then[[108,101,116],[110,97,109,101],[61],d6,[59],eE]else if s=[114,101,112,101,97,116] then[[114,101,112,101,97,116],[105,110,116],[110,97,109,101],[61],d6,[59],eE]else if s=[100,101,102] then[[100,101,102],[110,97,109,101],[40],ig,[41],[61],d6,[59],eE]else if s=[111,117,116] then[[111,117,116],d6,[59],eE] else[]) else
 if p=ig then (if s=[110,97,109,101] then[[110,97,109,101],fi] else[]) else
 if p=fi then (if s=[44] then[[44],[110,97,109,101],fi] else[]) else
 if p=d6 then ([ja,fd]) else
 if p=fd then (if s=[43]\/s=[45] then[s,ja,fd] else[]) else
 if p=ja then ([fo,eW]) else
 if p=eW then (if s=[42]\/s=[47] then[s,fo,eW] else[]) else
 if p=ot then (if s=[40] then[[40],kR,[41]] else[]) else
 if p=kR then (if s=[41] then[] else[d6,gg]) else
 if p=gg then (if s=[44] then[[44],d6,gg] else[]) else
 jt s
def gC(s:List UInt8):Bool:=decide (1<s.length)&&(decide (65<=bt s 0)&&decide (bt s 0<=90))
def wt(s:List UInt8):Nat:=if s=kR then 7 else if s=d6 then 5 else if s=ja then 3 else 1
def wts:List (List UInt8)->Nat
 |[]=>0
 |s::r=>wt s+wts r
def ze:List (List UInt8)->Bool
 |[]=>false
 |p::_=>gC p
def mu(st:List (List UInt8)):Nat:=if ze st=true then wts st+1 else 0
theorem zg(s):1<=wt s:=by
 unfold wt;grind
def UL:List (List UInt8):=[[45],[110,97,109,101],[40],[101,120,112],[115,117,109],[109,97,120],[100,111,116],[115,101,108],[102,105,108,108],[112,105,99,107],[112,117,116],[103,114,97,100],[106,118,112],[100,101,99]]
def RL:List (List UInt8):=[[105,110],[108,101,116],[114,101,112,101,97,116],[100,101,102],[111,117,116],[110,97,109,101],[44],[43],[45],[42],[47],[40],[41]]
def PQ:List (List UInt8):=[eE,ig,fi,d6,fd,ja,eW,ot,kR,gg]
theorem vw(h:¬s∈UL):jt s=[[105,110,116]]:=by
 simp_all[UL,jt]
theorem D2(s)(h:¬p∈PQ):fg p s=jt s:=by
 simp_all[PQ,fg]
def ruN(p:List UInt8):List (List UInt8):=if p=d6 then[ja,fd]else if p=ja then[fo,eW]else if p=kR then[d6,gg] else[]
theorem D3{p s}(h:p∈PQ)(ai:¬s∈RL):fg p s=ruN p:=by
 simp only[PQ,RL,List.mem_cons,List.not_mem_nil,or_false,not_or]at h ai;obtain rfl|rfl|rfl|rfl|rfl|rfl|rfl|rfl|rfl|rfl:=h<;>simp[fg,ai]<;>rfl
theorem ui(s r):ze (jt s++r)=false:=by
 by_cases h:s∈UL
 ·simp only[UL,List.mem_cons,List.not_mem_nil,or_false]at h;obtain rfl|rfl|rfl|rfl|rfl|rfl|rfl|rfl|rfl|rfl|rfl|rfl|rfl|rfl:=h<;>rfl
 rw[vw h];rfl
theorem sa(p s r):fg p s=[]\/ze (fg p s++r)=false\/(p=d6/\fg p s=[ja,fd])\/(p=ja/\fg p s=[fo,eW])\/(p=kR/\fg p s=[d6,gg]):=by
 by_cases h:p∈PQ
 ·by_cases ai:s∈RL
  ·simp only[PQ,RL,List.mem_cons,List.not_mem_nil,or_false]at h ai;obtain rfl|rfl|rfl|rfl|rfl|rfl|rfl|rfl|rfl|rfl:=h<;>obtain rfl|rfl|rfl|rfl|rfl|rfl|rfl|rfl|rfl|rfl|rfl|rfl|rfl:=ai<;>simp[fg,eE,ig,fi,d6,fd,ja,eW,ot,kR,gg,ze,gC,bt]
  rw[D3 h ai];clear ai;simp only[PQ,List.mem_cons,List.not_mem_nil,or_false]at h;obtain rfl|rfl|rfl|rfl|rfl|rfl|rfl|rfl|rfl|rfl:=h<;>grind[ruN]
 grind[D2,ui]
theorem Ay(p s r)(h:gC p=true):mu (fg p s++r)<mu (p::r):=by
 have e:mu (p::r)=wt p+wts r+1:=by unfold mu ze;rw[h3 h];rfl
 rw[e];obtain c|c|⟨rfl,c⟩|⟨rfl,c⟩|⟨rfl,c⟩:=sa p s r
 ·rw[c,List.nil_append];grind[zg,mu]
 ·grind[mu]
 all_goals
  rw[c]
  unfold mu
  split
  ·show wt _+(wt _+wts r)+1<_
   have z:wt ja=3:=xab
   have J:wt fd=1:=xab
   have al:wt d6=5:=xab
   have bw:wt fo=1:=xab
   have bL:wt eW=1:=xab
   have bf:wt gg=1:=xab
   have S:wt kR=7:=xab
   omega
  ·omega
def gM(s:List UInt8)(st:List (List UInt8)):List (List UInt8):=
 match st with
 |[]=>[]
 |p::r=>if _h:gC p=true then gM s (fg p s++r)else p::r
termination_by mu st
decreasing_by exact Ay p s r _h
theorem ke(s):gM s []=[]:=by rw[gM]
theorem il(h:gC p=true):gM s (p::r)=gM s (fg p s++r):=by rw[gM,dif_pos h]
theorem jA(h:gC p=false):gM s (p::r)=p::r:=by rw[gM,dif_neg (by rw[h];simp)]
def pV:List UInt8:=[101,110,100]
def dT(n:Nat):List Tok->List (List UInt8)->Int
 |[],st=>if gM pV st=[]then -1 else (n:Int)
 |t::ts,st=>match gM t.sym st with
  |[]=>(t.pos:Int)
  |p::r=>if p=t.sym then dT n ts r else (t.pos:Int)
theorem uj(s):1<=(jt s).length/\(jt s).length<=8:=by
 by_cases h:s∈UL
 ·revert s;decide
 rw[vw h];decide
theorem xC(p s):(fg p s).length<=9:=by
 by_cases h:p∈PQ
 ·by_cases ai:s∈RL
  ·exact(show ∀p∈PQ,∀s∈RL,(fg p s).length<=9 by decide) p h s ai
  rw[D3 h ai];revert p;decide
 rw[D2 s h];have:=uj s;omega
inductive Ex where
 |num (t:Tok)
 |name (t:Tok)
 |neg (o:Tok) (e:Ex)
 |bin (o:Tok) (a b:Ex)
 |call (t:Tok) (es:List Ex)
 |key1 (k:Tok) (e:Ex)
 |key2 (k:Tok) (a b:Ex)
 |key3 (k:Tok) (a b c:Ex)
 |keyN (k:Tok) (e:Ex) (n:Tok)
 |put (k:Tok) (e:Ex) (i n:Tok)
 |grad (k:Tok) (e:Ex) (x:Tok)
 |jvp (k:Tok) (e:Ex) (x:Tok) (d:Ex)
def oA:List UInt8:=[101,120,112]
def vx:List UInt8:=[115,117,109]
def l8:List UInt8:=[109,97,120]
def xD:List UInt8:=[100,111,116]
def qO:List UInt8:=[115,101,108]
def mU:List UInt8:=[102,105,108,108]
def lO:List UInt8:=[112,105,99,107]
def vy:List UInt8:=[112,117,116]
def sb:List UInt8:=[103,114,97,100]
def zh:List UInt8:=[106,118,112]
inductive Pr:Nat->List Ex->List Tok->Prop
 |up01 {e:Ex}{ts:List Tok}:Pr 0 [e] ts->Pr 1 [e] ts
 |up12 {e:Ex}{ts:List Tok}:Pr 1 [e] ts->Pr 2 [e] ts
 |add {a b:Ex}{ts us:List Tok}{o:Tok}:Pr 2 [a] ts->(o.sym=[43]\/o.sym=[45])->Pr 1 [b] us->Pr 2 [.bin o a b] (ts++o::us)
 |mul {a b:Ex}{ts us:List Tok}{o:Tok}:Pr 1 [a] ts->(o.sym=[42]\/o.sym=[47])->Pr 0 [b] us->Pr 1 [.bin o a b] (ts++o::us)
 |neg {e:Ex}{ts:List Tok}{o:Tok}:o.sym=[45]->Pr 0 [e] ts->Pr 0 [.neg o e] (o::ts)
 |num {t:Tok}:(t.sym=fx\/t.sym=iS)->Pr 0 [.num t] [t]
 |name {t:Tok}:t.sym=eu->Pr 0 [.name t] [t]
 |par {e:Ex}{ts:List Tok}{l r:Tok}:l.sym=[40]->Pr 2 [e] ts->r.sym=[41]->Pr 0 [e] (l::(ts++[r]))
 |call0 {t l r:Tok}:t.sym=eu->l.sym=[40]->r.sym=[41]->Pr 0 [.call t []] [t,l,r]
 |call {es:List Ex}{ts:List Tok}{t l r:Tok}:t.sym=eu->l.sym=[40]->Pr 3 es ts->r.sym=[41]->Pr 0 [.call t es] (t::l::(ts++[r]))
 |arg1 {e:Ex}{ts:List Tok}:Pr 2 [e] ts->Pr 3 [e] ts
 |argM {es:List Ex}{e:Ex}{ts us:List Tok}{c:Tok}:Pr 3 es ts->c.sym=[44]->Pr 2 [e] us->Pr 3 (es++[e]) (ts++c::us)
 |key1 {e:Ex}{ts:List Tok}{k l r:Tok}:(k.sym=oA\/k.sym=vx)->l.sym=[40]->Pr 2 [e] ts->r.sym=[41]->Pr 0 [.key1 k e] (k::l::(ts++[r]))
 |key2 {a b:Ex}{ts us:List Tok}{k l c r:Tok}:(k.sym=l8\/k.sym=xD)->l.sym=[40]->Pr 2 [a] ts->c.sym=[44]->Pr 2 [b] us->r.sym=[41]->Pr 0 [.key2 k a b] (k::l::(ts++c::(us++[r])))
 |key3 {a b d:Ex}{ts us ws:List Tok}{k l c c2 r:Tok}:k.sym=qO->l.sym=[40]->Pr 2 [a] ts->c.sym=[44]->Pr 2 [b] us->c2.sym=[44]->Pr 2 [d] ws->r.sym=[41]->Pr 0 [.key3 k a b d] (k::l::(ts++c::(us++c2::(ws++[r]))))
 |keyN {e:Ex}{ts:List Tok}{k l c n r:Tok}:(k.sym=mU\/k.sym=lO)->l.sym=[40]->Pr 2 [e] ts->c.sym=[44]->n.sym=fx->r.sym=[41]->Pr 0 [.keyN k e n] (k::l::(ts++[c,n,r]))
 |put {e:Ex}{ts:List Tok}{k l c i c2 n r:Tok}:k.sym=vy->l.sym=[40]->Pr 2 [e] ts->c.sym=[44]->i.sym=fx->c2.sym=[44]->n.sym=fx->r.sym=[41]->Pr 0 [.put k e i n] (k::l::(ts++[c,i,c2,n,r]))
 |grad {e:Ex}{ts:List Tok}{k l c x r:Tok}:k.sym=sb->l.sym=[40]->Pr 2 [e] ts->c.sym=[44]->x.sym=eu->r.sym=[41]->Pr 0 [.grad k e x] (k::l::(ts++[c,x,r]))
 |jvp {e d:Ex}{ts us:List Tok}{k l c x c2 r:Tok}:k.sym=zh->l.sym=[40]->Pr 2 [e] ts->c.sym=[44]->x.sym=eu->c2.sym=[44]->Pr 2 [d] us->r.sym=[41]->Pr 0 [.jvp k e x d] (k::l::(ts++c::x::c2::(us++[r])))
structure OpS where
 i:Nat
 d:Int
 at_:Int
 b:Bool
def iT(s:List UInt8):Bool:=s==eu||s==fx||s==iS||s==[41]
def ii(x y:List UInt8)(q:OpS)(t:Tok):OpS:=
 if t.sym=[40] then⟨q.i+1,q.d+1,q.at_,iT t.sym⟩
 else if t.sym=[41] then⟨q.i+1,q.d-1,q.at_,iT t.sym⟩
 else⟨q.i+1,q.d,if q.d=0/\q.b=true/\(t.sym=x\/t.sym=y)then (q.i:Int)else q.at_,iT t.sym⟩
def jB(x y:List UInt8)(q:OpS)(ts:List Tok):OpS:=ts.foldl (ii x y) q
theorem eh(x y q a b):jB x y q (a++b)=jB x y (jB x y q a) b:=by unfold jB;grind
theorem dN(x y q t b):jB x y q (t::b)=jB x y (ii x y q t) b:=rfl
theorem eU(x y q):jB x y q []=q:=rfl
theorem neL(h:s=x)(ar:x≠aX:=by decide):s≠aX:=h ▸ ar
theorem neO(h:s=x\/s=y)(ar:x≠aX:=by decide)(aY:y≠aX:=by decide):s≠aX:=by grind
theorem vz(h:t.sym=[40]):ii x y q t=⟨q.i+1,q.d+1,q.at_,false⟩:=by unfold ii;rw[h3 h,h];rfl
theorem vA(h:t.sym=[41]):ii x y q t=⟨q.i+1,q.d-1,q.at_,true⟩:=by unfold ii;rw[h2 (neL h),h3 h,h];rfl
theorem l9(z:t.sym≠[40])(J:t.sym≠[41])(al:¬(q.d=0/\q.b=true/\(t.sym=x\/t.sym=y))):ii x y q t=⟨q.i+1,q.d,q.at_,iT t.sym⟩:=by grind[ii]
theorem vB(z:t.sym≠[40])(J:t.sym≠[41])(al:q.d=0/\q.b=true/\(t.sym=x\/t.sym=y)):ii x y q t=⟨q.i+1,q.d,q.i,iT t.sym⟩:=by grind[ii]
theorem sc{i}(z:i=j)(J:d=e):(⟨i,d,a,b⟩:OpS)=⟨j,e,a,b⟩:=by rw[z,J]
theorem opq{i:Nat}{d e a:Int}{b:Bool}(z:i=j:=by first|(simp;done)|(simp;omega))(J:d=e:=by omega):(⟨i,d,a,b⟩:OpS)=⟨j,e,a,b⟩:=sc z J
theorem Il(h:Pr n es ts):∀(i:Nat) (d a:Int) (b:Bool),0<d->jB x y ⟨i,d,a,b⟩ ts=⟨i+ts.length,d,a,true⟩:=by
 have m:∀(i:Nat) (d a:Int) (b:Bool) (t:Tok),0<d->t.sym≠[40]->t.sym≠[41]->ii x y ⟨i,d,a,b⟩ t=⟨i+1,d,a,_⟩:=λi d a b t an z J=>l9 z J (λc=>by grind);have sl:∀(i:Nat) (d a:Int) (b:Bool) (t:Tok),t.sym=[40]->ii x y ⟨i,d,a,b⟩ t=⟨i+1,d+1,a,_⟩:=λi d a b t h=>vz h;have q:∀(i:Nat) (d a:Int) (b:Bool) (t:Tok),t.sym=[41]->ii x y ⟨i,d,a,b⟩ t=⟨i+1,d-1,a,_⟩:=λi d a b t h=>vA h;induction h with
 |up01 _ O=>exact O
 |up12 _ O=>exact O
 |@add a b ts us o _ av _ f g=>
  intro i d cg bK an;rw[eh,f _ _ _ _ an,dN,m _ _ _ _ o an (neO av) (neO av),g _ _ _ _ an];exact opq
 |@mul a b ts us o _ av _ f g=>
  intro i d cg bK an;rw[eh,f _ _ _ _ an,dN,m _ _ _ _ o an (neO av) (neO av),g _ _ _ _ an];exact opq
 |@neg e ts o av _ O=>
  intro i d cg bK an;rw[dN,m _ _ _ _ o an (neL av) (neL av),O _ _ _ _ an];exact opq
 |@num t az=>
  intro i d cg bK an;have aE:iT t.sym=true:=by obtain c|c:=az<;>rw[c]<;>decide
  rw[dN,m _ _ _ _ t an (neO az) (neO az),eU,aE];exact opq
 |@name t az=>
  intro i d cg bK an;have aE:iT t.sym=true:=by rw[az];decide
  rw[dN,m _ _ _ _ t an (neL az) (neL az),eU,aE];exact opq
 |@par e ts l r ab _ ah O=>
  intro i d cg bK an;have u:0<d+1:=xaa;rw[dN,sl _ _ _ _ l ab,eh,O _ _ _ _ u,dN,q _ _ _ _ r ah,eU];exact opq
 |@call0 t l r az ab ah=>
  intro i d cg bK an;rw[dN,m _ _ _ _ t an (neL az) (neL az),dN,sl _ _ _ _ l ab,dN,q _ _ _ _ r ah,eU];exact opq
 |@call es ts t l r az ab _ ah O=>
  intro i d cg bK an;have u:0<d+1:=xaa;rw[dN,m _ _ _ _ t an (neL az) (neL az),dN,sl _ _ _ _ l ab,eh,O _ _ _ _ u,dN,q _ _ _ _ r ah,eU];exact opq
 |arg1 _ O=>exact O
 |@argM es e ts us c _ aj _ f g=>
  intro i d cg bK an;rw[eh,f _ _ _ _ an,dN,m _ _ _ _ c an (neL aj) (neL aj),g _ _ _ _ an];exact opq
 |@key1 e ts k l r H ab _ ah O=>
  intro i d cg bK an;have u:0<d+1:=xaa;rw[dN,m _ _ _ _ k an (neO H) (neO H),dN,sl _ _ _ _ l ab,eh,O _ _ _ _ u,dN,q _ _ _ _ r ah,eU];exact opq
 |@key2 a b ts us k l c r H ab _ aj _ ah f g=>
  intro i d cg bK an;have u:0<d+1:=xaa;rw[dN,m _ _ _ _ k an (neO H) (neO H),dN,sl _ _ _ _ l ab,eh,f _ _ _ _ u,dN,m _ _ _ _ c u (neL aj) (neL aj),eh,g _ _ _ _ u,dN,q _ _ _ _ r ah,eU];exact opq
 |@key3 a b cc ts us T k l c c2 r H ab _ aj _ aD _ ah f g v=>
  intro i d cg bK an;have u:0<d+1:=xaa;rw[dN,m _ _ _ _ k an (neL H) (neL H),dN,sl _ _ _ _ l ab,eh,f _ _ _ _ u,dN,m _ _ _ _ c u (neL aj) (neL aj),eh,g _ _ _ _ u,dN,m _ _ _ _ _ u (neL aD) (neL aD),eh,v _ _ _ _ u,dN,q _ _ _ _ r ah,eU];exact opq
 |@keyN e ts k l c bH r H ab _ aj V ah O=>
  intro i d cg bK an;have u:0<d+1:=xaa;rw[dN,m _ _ _ _ k an (neO H) (neO H),dN,sl _ _ _ _ l ab,eh,O _ _ _ _ u,dN,m _ _ _ _ c u (neL aj) (neL aj),dN,m _ _ _ _ _ u (neL V) (neL V),dN,q _ _ _ _ r ah,eU];exact opq
 |@put e ts k l c bS c2 bH r H ab _ aj hi aD V ah O=>
  intro i d cg bK an;have u:0<d+1:=xaa;rw[dN,m _ _ _ _ k an (neL H) (neL H),dN,sl _ _ _ _ l ab,eh,O _ _ _ _ u,dN,m _ _ _ _ c u (neL aj) (neL aj),dN,m _ _ _ _ _ u (neL hi) (neL hi),dN,m _ _ _ _ _ u (neL aD) (neL aD),dN,m _ _ _ _ _ u (neL V) (neL V),dN,q _ _ _ _ r ah,eU];exact opq
 |@grad e ts k l c bG r H ab _ aj V ah O=>
  intro i d cg bK an;have u:0<d+1:=xaa;rw[dN,m _ _ _ _ k an (neL H) (neL H),dN,sl _ _ _ _ l ab,eh,O _ _ _ _ u,dN,m _ _ _ _ c u (neL aj) (neL aj),dN,m _ _ _ _ _ u (neL V) (neL V),dN,q _ _ _ _ r ah,eU];exact opq
 |@jvp e cc ts us k l c bG c2 r H ab _ aj V aD _ ah f g=>
  intro i d cg bK an;have u:0<d+1:=xaa;rw[dN,m _ _ _ _ k an (neL H) (neL H),dN,sl _ _ _ _ l ab,eh,f _ _ _ _ u,dN,m _ _ _ _ c u (neL aj) (neL aj),dN,m _ _ _ _ _ u (neL V) (neL V),dN,m _ _ _ _ _ u (neL aD) (neL aD),eh,g _ _ _ _ u,dN,q _ _ _ _ r ah,eU];exact opq
theorem jm(i a t)(z:t.sym≠[40])(J:t.sym≠[41]):ii x y ⟨i,0,a,false⟩ t=⟨i+1,0,a,iT t.sym⟩:=l9 z J (λc=>by grind)
theorem sl0(i a b t)(h:t.sym=[40]):ii x y ⟨i,0,a,b⟩ t=⟨i+1,1,a,false⟩:=vz h
theorem sr1(i a b t)(h:t.sym=[41]):ii x y ⟨i,1,a,b⟩ t=⟨i+1,0,a,true⟩:=vA h
theorem so1{i}(t)(z:t.sym≠[40])(J:t.sym≠[41]):ii x y ⟨i,1,a,b⟩ t=⟨i+1,1,a,iT t.sym⟩:=l9 z J (λc=>by grind)
theorem mV(h:Pr n es ts):n=0->∀(i:Nat) (a:Int),jB x y ⟨i,0,a,false⟩ ts=⟨i+ts.length,0,a,true⟩:=by
 have m:∀{n:Nat}{es:List _}{ts:List _},Pr n es ts->∀(i:Nat) (a:Int) (b:Bool),jB x y _ _=⟨_,1,a,_⟩:=λh i a b=>Il h i 1 a b xab;induction h with
 |up01 _ _=>omega
 |up12 _ _=>omega
 |add _ _ _ _ _=>omega
 |mul _ _ _ _ _=>omega
 |arg1 _ _=>omega
 |argM _ _ _ _ _=>omega
 |@neg e ts o av _ O=>
  intro _ i a;have aE:iT o.sym=false:=by rw[av];decide
  rw[dN,jm i a o (neL av) (neL av),aE,O rfl];grind
 |@num t az=>
  intro _ i a;have aE:iT t.sym=true:=by obtain c|c:=az<;>rw[c]<;>decide
  rw[dN,jm i a t (neO az) (neO az),eU,aE];rfl
 |@name t az=>
  intro _ i a;have aE:iT t.sym=true:=by rw[az];decide
  rw[dN,jm i a t (neL az) (neL az),eU,aE];rfl
 |@par e ts l r ab z ah _=>
  grind[dN,sl0,eh,sr1,eU]
 |@call0 t l r az ab ah=>
  intro _ i a;rw[dN,jm i a t (neL az) (neL az),dN,sl0 _ _ _ l ab,dN,sr1 _ _ _ r ah,eU];rfl
 |@call es ts t l r az ab z ah _=>
  intro _ i a;rw[dN,jm i a t (neL az) (neL az),dN,sl0 _ _ _ l ab,eh,m z,dN,sr1 _ _ _ r ah,eU];grind
 |@key1 e ts k l r H ab z ah _=>
  intro _ i a;rw[dN,jm i a k (neO H) (neO H),dN,sl0 _ _ _ l ab,eh,m z,dN,sr1 _ _ _ r ah,eU];grind
 |@key2 cg bK ts us k l c r H ab z aj J ah _ _=>
  intro _ i a;rw[dN,jm i a k (neO H) (neO H),dN,sl0 _ _ _ l ab,eh,m z,dN,so1 c (neL aj) (neL aj),eh,m J,dN,sr1 _ _ _ r ah,eU];grind
 |@key3 cg bK cc ts us T k l c c2 r H ab z aj J aD al ah _ _ _=>
  intro _ i a;rw[dN,jm i a k (neL H) (neL H),dN,sl0 _ _ _ l ab,eh,m z,dN,so1 c (neL aj) (neL aj),eh,m J,dN,so1 _ (neL aD) (neL aD),eh,m al,dN,sr1 _ _ _ r ah,eU];grind
 |@keyN e ts k l c bH r H ab z aj V ah _=>
  intro _ i a;rw[dN,jm i a k (neO H) (neO H),dN,sl0 _ _ _ l ab,eh,m z,dN,so1 c (neL aj) (neL aj),dN,so1 _ (neL V) (neL V),dN,sr1 _ _ _ r ah,eU];grind
 |@put e ts k l c bS c2 bH r H ab z aj hi aD V ah _=>
  intro _ i a;rw[dN,jm i a k (neL H) (neL H),dN,sl0 _ _ _ l ab,eh,m z,dN,so1 c (neL aj) (neL aj),dN,so1 _ (neL hi) (neL hi),dN,so1 _ (neL aD) (neL aD),dN,so1 _ (neL V) (neL V),dN,sr1 _ _ _ r ah,eU];exact sc yaf rfl
 |@grad e ts k l c bG r H ab z aj V ah _=>
  intro _ i a;rw[dN,jm i a k (neL H) (neL H),dN,sl0 _ _ _ l ab,eh,m z,dN,so1 c (neL aj) (neL aj),dN,so1 _ (neL V) (neL V),dN,sr1 _ _ _ r ah,eU];grind
 |@jvp e cc ts us k l c bG c2 r H ab z aj V aD J ah _ _=>
  intro _ i a;rw[dN,jm i a k (neL H) (neL H),dN,sl0 _ _ _ l ab,eh,m z,dN,so1 c (neL aj) (neL aj),dN,so1 _ (neL V) (neL V),dN,so1 _ (neL aD) (neL aD),eh,m J,dN,sr1 _ _ _ r ah,eU];exact sc yaf rfl
theorem Az(h:Pr n es ts):n=1->∀(i:Nat) (a:Int),jB [43] [45] ⟨i,0,a,false⟩ ts=⟨i+ts.length,0,a,true⟩:=by
 induction h with
 |up01 aC _=>intro _ i a;exact mV aC rfl i a
 |@mul cg bK ts us o _ av J f _=>
  intro _ i a;have S:¬(o.sym=[43]\/o.sym=[45]):=by grind
  have aE:iT o.sym=false:=by obtain c|c:=av<;>rw[c]<;>decide
  rw[eh,f rfl,dN,l9 (neO av) (neO av) (λc=>S c.2.2),aE,mV J rfl];grind
 |up12 _ _=>omega
 |add _ _ _ _ _=>omega
 |arg1 _ _=>omega
 |argM _ _ _ _ _=>omega
 |neg _ _ _=>omega
 |num _=>omega
 |name _=>omega
 |par _ _ _ _=>omega
 |call0 _ _ _=>omega
 |call _ _ _ _ _=>omega
 |key1 _ _ _ _ _=>omega
 |key2 _ _ _ _ _ _ _ _=>omega
 |key3 _ _ _ _ _ _ _ _ _ _ _=>omega
 |keyN _ _ _ _ _ _ _=>omega
 |put _ _ _ _ _ _ _ _ _=>omega
 |grad _ _ _ _ _ _ _=>omega
 |jvp _ _ _ _ _ _ _ _ _ _=>omega
theorem D4(h:Pr n es ts):n<=2->∀(i:Nat) (a:Int),∃ap,jB x y ⟨i,0,a,false⟩ ts=⟨i+ts.length,0,ap,true⟩:=by
 have b:∀{es:List _}{ts:List _},Pr 0 es ts->∀(i:Nat) (a:Int),∃ap,jB x y _ _=⟨_,0,ap,_⟩:=λh i a=>⟨a,mV h rfl i a⟩
 have D:∀{ts us:List _}{o:Tok},o.sym≠[40]->o.sym≠[41]->iT o.sym=false->(∀(i:Nat) (a:Int),∃ap,jB x y ⟨i,0,a,false⟩ ts=⟨i+ts.length,0,ap,true⟩)->(∀(i:Nat) (a:Int),∃ap,jB x y ⟨i,0,a,false⟩ us=⟨i+us.length,0,ap,true⟩)->∀(i:Nat) (a:Int),∃ap,jB x y ⟨i,0,a,false⟩ (ts++o::us)=⟨i+(ts++o::us).length,0,ap,true⟩:=by
  intro ts us o n1 aI aE z J i a;obtain⟨a1,K⟩:=z i a;rw[eh,K,dN];by_cases c:x=o.sym\/y=o.sym
  ·rw[vB n1 aI ⟨rfl,rfl,c.imp Eq.symm Eq.symm⟩,aE];obtain⟨a2,a6⟩:=J (i+ts.length+1) _;exact⟨a2,by rw[a6];exact sc yaf rfl⟩
  rw[l9 n1 aI (λd=>c (d.2.2.imp Eq.symm Eq.symm)),aE];obtain⟨a2,a6⟩:=J (i+ts.length+1) a1;exact⟨a2,by rw[a6];exact sc yaf rfl⟩
 induction h with
 |up01 _ O=>grind
 |up12 _ O=>grind
 |@add cg bK ts us o _ av _ f g=>
  exact λ_=>D (by grind) (by grind) (by obtain c|c:=av<;>rw[c]<;>decide) (f xab) (g xab)
 |@mul cg bK ts us o _ av _ f g=>
  exact λ_=>D (by grind) (by grind) (by obtain c|c:=av<;>rw[c]<;>decide) (f xab) (g xab)
 |arg1 _ _=>omega
 |argM _ _ _ _ _=>omega
 |neg av z _=>exact λ_=>b (.neg av z)
 |num h=>exact λ_=>b (.num h)
 |name h=>exact λ_=>b (.name h)
 |par z J al _=>exact λ_=>b (.par z J al)
 |call0 z J al=>exact λ_=>b (.call0 z J al)
 |call z J al bw _=>exact λ_=>b (.call z J al bw)
 |key1 z J al bw _=>exact λ_=>b (.key1 z J al bw)
 |key2 z J al bw bL bf _ _=>exact λ_=>b (.key2 z J al bw bL bf)
 |key3 z J al bw bL bf S m _ _ _=>exact λ_=>b (.key3 z J al bw bL bf S m)
 |keyN z J al bw bL bf _=>exact λ_=>b (.keyN z J al bw bL bf)
 |put z J al bw bL bf S m _=>exact λ_=>b (.put z J al bw bL bf S m)
 |grad z J al bw bL bf _=>exact λ_=>b (.grad z J al bw bL bf)
 |jvp z J al bw bL bf S m _ _=>exact λ_=>b (.jvp z J al bw bL bf S m)
def opM(x y:List UInt8)(ts:List Tok):Int:=(jB x y ⟨0,0,-1,false⟩ ts).at_
theorem lP(h:Pr 0 [e] ts):opM x y ts=-1:=by
 unfold opM;rw[mV h rfl]
theorem D5(h:Pr 1 [e] ts):opM [43] [45] ts=-1:=by
 unfold opM;rw[Az h rfl]
theorem Mg(z:Pr 2 [a] ts)(av:o.sym=[43]\/o.sym=[45])(J:Pr 1 [b] us):opM [43] [45] (ts++o::us)=(ts.length:Int):=by
 unfold opM;obtain⟨ap,e⟩:=D4 (x:=[43]) (y:=[45]) z xab 0 (-1);rw[eh,e,dN,vB (by grind) (by grind) ⟨rfl,rfl,av⟩,show iT _=false by obtain c|c:=av<;>rw[c]<;>decide,Az J rfl];simp
theorem Mh(z:Pr 1 [a] ts)(av:o.sym=[42]\/o.sym=[47])(J:Pr 0 [b] us):opM [42] [47] (ts++o::us)=(ts.length:Int):=by
 unfold opM;obtain⟨ap,e⟩:=D4 (x:=[42]) (y:=[47]) z xab 0 (-1);rw[eh,e,dN,vB (by grind) (by grind) ⟨rfl,rfl,av⟩,show iT _=false by obtain c|c:=av<;>rw[c]<;>decide,mV J rfl];simp
def cm(d:Int):List Tok->Option Int
 |[]=>some d
 |t::ts=>if t.sym=[40]then cm (d+1) ts else if t.sym=[41]then cm (d-1) ts else if t.sym=[44]/\d=0 then none else cm d ts
theorem gG(h:t.sym=[40]):cm d (t::ts)=cm (d+1) ts:=by rw[cm,h3 h]
theorem gH(h:t.sym=[41]):cm d (t::ts)=cm (d-1) ts:=by grind[cm]
theorem zi(z:t.sym≠[40])(J:t.sym≠[41])(al:t.sym≠[44]):cm d (t::ts)=cm d ts:=by grind[cm]
theorem gJ{d:Int}(h:t.sym=x)(ar:x≠[40]/\x≠[41]/\x≠[44]:=by decide):cm d (t::ts)=cm d ts:=by subst h;exact zi ar.1 ar.2.1 ar.2.2
theorem kO{d:Int}(h:t.sym=x\/t.sym=y)(ar:x≠[40]/\x≠[41]/\x≠[44]:=by decide)(aY:y≠[40]/\y≠[41]/\y≠[44]:=by decide):cm d (t::ts)=cm d ts:=by obtain h|h:=h<;>exact gJ h ‹_›
theorem iY(h:t.sym=[44])(aT:d≠0):cm d (t::ts)=cm d ts:=by grind[cm]
theorem fK:∀(a b:List Tok) (d e:Int),cm d a=some e->cm d (a++b)=cm e b
 |[],b,d,e,h=>by cases h;rfl
 |t::a,b,d,e,h=>by
  rw[List.cons_append]
  by_cases z:t.sym=[40]
  ·rw[gG z]at h⊢;exact fK a b _ _ h
  ·by_cases J:t.sym=[41]
   ·rw[gH J]at h⊢;exact fK a b _ _ h
   ·by_cases al:t.sym=[44]
    ·by_cases bw:d=0
     ·grind[cm]
     ·rw[iY al bw]at h⊢;exact fK a b _ _ h
    ·rw[zi z J al]at h⊢;exact fK a b _ _ h
theorem ij(d):cm d []=some d:=rfl
theorem Im(h:Pr n es ts):∀d:Int,0<d->cm d ts=some d:=by
 induction h with
 |up01 _ O=>exact O
 |up12 _ O=>exact O
 |arg1 _ O=>exact O
 |@add a b ts us o _ av _ f g=>
  intro d aT;rw[fK _ _ _ _ (f _ aT),kO av,g _ aT]
 |@mul a b ts us o _ av _ f g=>
  intro d aT;rw[fK _ _ _ _ (f _ aT),kO av,g _ aT]
 |@neg e ts o av _ O=>
  intro d aT;rw[gJ av,O _ aT]
 |@num t az=>
  intro d aT;rw[kO az,ij]
 |@name t az=>
  intro d aT;rw[gJ az,ij]
 |@par e ts l r ab _ ah O=>
  intro d aT;have z:0<d+1:=xaa;rw[gG ab,fK _ _ _ _ (O _ z),gH ah,ij];grind
 |@call0 t l r az ab ah=>
  intro d aT;have z:0<d+1:=xaa;rw[gJ az,gG ab,gH ah,ij];grind
 |@call es ts t l r az ab _ ah O=>
  intro d aT;have z:0<d+1:=xaa;rw[gJ az,gG ab,fK _ _ _ _ (O _ z),gH ah,ij];grind
 |@argM es e ts us c _ aj _ f g=>
  intro d aT;rw[fK _ _ _ _ (f _ aT),iY aj xaa,g _ aT]
 |@key1 e ts k l r H ab _ ah O=>
  intro d aT;have z:0<d+1:=xaa;rw[kO H,gG ab,fK _ _ _ _ (O _ z),gH ah,ij];grind
 |@key2 a b ts us k l c r H ab _ aj _ ah f g=>
  intro d aT;have z:0<d+1:=xaa;rw[kO H,gG ab,fK _ _ _ _ (f _ z),iY aj xaa,fK _ _ _ _ (g _ z),gH ah,ij];grind
 |@key3 a b cc ts us T k l c c2 r H ab _ aj _ aD _ ah f g v=>
  intro d aT;have z:0<d+1:=xaa;rw[gJ H,gG ab,fK _ _ _ _ (f _ z),iY aj xaa,fK _ _ _ _ (g _ z),iY aD xaa,fK _ _ _ _ (v _ z),gH ah,ij];grind
 |@keyN e ts k l c bH r H ab _ aj V ah O=>
  intro d aT;have z:0<d+1:=xaa;rw[kO H,gG ab,fK _ _ _ _ (O _ z),iY aj xaa,gJ V,gH ah,ij];grind
 |@put e ts k l c bS c2 bH r H ab _ aj hi aD V ah O=>
  intro d aT;have z:0<d+1:=xaa;rw[gJ H,gG ab,fK _ _ _ _ (O _ z),iY aj xaa,gJ hi,iY aD xaa,gJ V,gH ah,ij];grind
 |@grad e ts k l c bG r H ab _ aj V ah O=>
  intro d aT;have z:0<d+1:=xaa;rw[gJ H,gG ab,fK _ _ _ _ (O _ z),iY aj xaa,gJ V,gH ah,ij];grind
 |@jvp e cc ts us k l c bG c2 r H ab _ aj V aD _ ah f g=>
  intro d aT;have z:0<d+1:=xaa;rw[gJ H,gG ab,fK _ _ _ _ (f _ z),iY aj xaa,gJ V,iY aD xaa,fK _ _ _ _ (g _ z),gH ah,ij];grind
theorem jJ(h:Pr n es ts):n<=2->cm 0 ts=some 0:=by
 have m:∀{n:Nat}{es:List Ex}{ts:List Tok},Pr n es ts->cm (0+1) ts=some (0+1):=λh=>Im h _ xab;induction h with
 |up01 _ O=>exact λ_=>O xab
 |up12 _ O=>exact λ_=>O xab
 |arg1 _ _=>intro h;omega
 |argM _ _ _ _ _=>intro h;omega
 |@add a b ts us o _ av _ f g=>
  intro _;rw[fK _ _ _ _ (f xab),kO av,g xab]
 |@mul a b ts us o _ av _ f g=>
  intro _;rw[fK _ _ _ _ (f xab),kO av,g xab]
 |@neg e ts o av _ O=>
  intro _;rw[gJ av,O xab]
 |@num t az=>
  intro _;rw[kO az,ij]
 |@name t az=>
  intro _;rw[gJ az,ij]
 |@par e ts l r ab z ah _=>
  intro _;rw[gG ab,fK _ _ _ _ (m z),gH ah,ij];rfl
 |@call0 t l r az ab ah=>
  intro _;rw[gJ az,gG ab,gH ah,ij];rfl
 |@call es ts t l r az ab z ah _=>
  intro _;rw[gJ az,gG ab,fK _ _ _ _ (m z),gH ah,ij];rfl
 |@key1 e ts k l r H ab z ah _=>
  intro _;rw[kO H,gG ab,fK _ _ _ _ (m z),gH ah,ij];rfl
 |@key2 a b ts us k l c r H ab z aj J ah _ _=>
  intro _;rw[kO H,gG ab,fK _ _ _ _ (m z),iY aj xab,fK _ _ _ _ (m J),gH ah,ij];rfl
 |@key3 a b cc ts us T k l c c2 r H ab z aj J aD al ah _ _ _=>
  intro _;rw[gJ H,gG ab,fK _ _ _ _ (m z),iY aj xab,fK _ _ _ _ (m J),iY aD xab,fK _ _ _ _ (m al),gH ah,ij];rfl
 |@keyN e ts k l c bH r H ab z aj V ah _=>
  intro _;rw[kO H,gG ab,fK _ _ _ _ (m z),iY aj xab,gJ V,gH ah,ij];rfl
 |@put e ts k l c bS c2 bH r H ab z aj hi aD V ah _=>
  intro _;rw[gJ H,gG ab,fK _ _ _ _ (m z),iY aj xab,gJ hi,iY aD xab,gJ V,gH ah,ij];rfl
 |@grad e ts k l c bG r H ab z aj V ah _=>
  intro _;rw[gJ H,gG ab,fK _ _ _ _ (m z),iY aj xab,gJ V,gH ah,ij];rfl
 |@jvp e cc ts us k l c bG c2 r H ab z aj V aD J ah _ _=>
  intro _;rw[gJ H,gG ab,fK _ _ _ _ (m z),iY aj xab,gJ V,iY aD xab,fK _ _ _ _ (m J),gH ah,ij];rfl
structure SpS where
 d:Int
 cur:List Tok
 ou:List (List Tok)
def ik(q:SpS)(t:Tok):SpS:=
 if t.sym=[40] then⟨q.d+1,q.cur++[t],q.ou⟩
 else if t.sym=[41] then⟨q.d-1,q.cur++[t],q.ou⟩
 else if t.sym=[44]/\q.d=0 then⟨0,[],q.ou++[q.cur]⟩
 else⟨q.d,q.cur++[t],q.ou⟩
def lr(q:SpS)(ts:List Tok):SpS:=ts.foldl ik q
theorem nA(q a b):lr q (a++b)=lr (lr q a) b:=by unfold lr;grind
theorem kg(q t b):lr q (t::b)=lr (ik q t) b:=rfl
theorem ph:∀(ts:List Tok) (d e:Int) (bp:List Tok) (out:List (List Tok)),cm d ts=some e->lr ⟨d,bp,out⟩ ts=⟨e,bp++ts,out⟩
 |[],d,e,bp,out,h=>by cases h;show(⟨d,bp,out⟩:SpS)=_;grind
 |t::ts,d,e,bp,out,h=>by
  rw[kg]
  by_cases z:t.sym=[40]
  ·rw[gG z]at h
   rw[show ik ⟨d,bp,out⟩ t=⟨d+1,bp++[t],out⟩ by unfold ik;rw[h3 z],ph ts _ _ _ _ h,List.append_assoc];rfl
  ·by_cases J:t.sym=[41]
   ·rw[gH J]at h
    rw[show ik ⟨d,bp,out⟩ t=⟨d-1,bp++[t],out⟩ by unfold ik;rw[h2 z,h3 J],ph ts _ _ _ _ h,List.append_assoc];rfl
   ·by_cases al:t.sym=[44]/\d=0
    ·grind[cm]
    ·have h':cm d ts=some e:=by grind[cm]
     rw[show ik _ t=⟨d,bp++[t],out⟩ by grind[ik],ph _ _ _ _ _ h',List.append_assoc];rfl
theorem se(h:c.sym=[44])(bp out):ik ⟨0,bp,out⟩ c=⟨0,[],out++[bp]⟩:=by
 grind[ik]
def fC(ts:List Tok):List (List Tok):=if ts=[] then[]else (lr ⟨0,[],[]⟩ ts).ou++[(lr ⟨0,[],[]⟩ ts).cur]
theorem sf(z:t.sym≠[40])(J:t.sym≠[41])(al:t.sym≠[44]):cm 0 [t]=some 0:=by rw[zi z J al];rfl
theorem KL(h:Pr n es ts):ts≠[]:=by
 induction h<;>simp_all<;>grind
theorem Mj(cd:ts≠[])(h:cm 0 ts=some 0):fC ts=[ts]:=by
 simp_all[fC,ph]
theorem zj(h:cm 0 ts=some 0)(aj:c.sym=[44])(J:cm 0 us=some 0):fC (ts++c::us)=[ts,us]:=by
 simp_all[fC,nA,ph,kg,se]
theorem zk{T c2}(h:cm 0 ts=some 0)(aj:c.sym=[44])(J:cm 0 us=some 0)(aD:c2.sym=[44])(al:cm 0 T=some 0):fC (ts++c::(us++c2::T))=[ts,us,T]:=by
 simp_all[fC,nA,ph,kg,se]
theorem zm(h:Pr n es ts):n=3->∃(d:List (List Tok)) (l:List Tok),lr ⟨0,[],[]⟩ ts=⟨0,l,d⟩/\(d++[l]).length=es.length/\∀i,i<es.length->Pr 2 [es.getD i (.num h8)] ((d++[l]).getD i []):=by
 induction h with
 |@arg1 e ts z _=>
  intro _;refine⟨[],ts,?_,rfl,λi hi=>?_⟩
  ·rw[ph _ 0 0 _ _ (jJ z xab)];rfl
  simp_all
 |@argM es e ts us c z aj J O _=>
  intro _;obtain⟨d,l,K,a6,ag⟩:=O rfl;refine⟨d++[l],us,?_,by simp at a6⊢;omega,λi hi=>?_⟩
  ·rw[nA,K,kg,se aj,ph _ 0 0 _ _ (jJ J xab)];rfl
  grind
 |up01 _ _=>omega
 |up12 _ _=>omega
 |add _ _ _ _ _=>omega
 |mul _ _ _ _ _=>omega
 |neg _ _ _=>omega
 |num _=>omega
 |name _=>omega
 |par _ _ _ _=>omega
 |call0 _ _ _=>omega
 |call _ _ _ _ _=>omega
 |key1 _ _ _ _ _=>omega
 |key2 _ _ _ _ _ _ _ _=>omega
 |key3 _ _ _ _ _ _ _ _ _ _ _=>omega
 |keyN _ _ _ _ _ _ _=>omega
 |put _ _ _ _ _ _ _ _ _=>omega
 |grad _ _ _ _ _ _ _=>omega
 |jvp _ _ _ _ _ _ _ _ _ _=>omega
theorem zp(h:Pr 3 es ts):(fC ts).length=es.length/\∀i,i<es.length->Pr 2 [es.getD i (.num h8)] ((fC ts).getD i []):=by
 grind[zm,fC,KL]
