import Derived.Test.YtcagphgmfbjneaaGreatP30
import Derived.Test.YtcagphgmfbjneaaGreatP36
namespace Go.Proofs.Z
variable{Zp:Prop}
open Tryz Go.RowKit Flt
set_option maxRecDepth 1000000
set_option maxHeartbeats 0
section
attribute[local go_sem] eE eD eC
variable{ss:List Ste}
def Lie(ss:List Ste)(n:Nat):Prop:=∀k,k<n->0<=(ss.getD k Ste.zero).dst/\(ss.getD k Ste.zero).dst<=50000/\1<=(ss.getD k Ste.zero).len/\(ss.getD k Ste.zero).len<=1000
theorem AK{n c}(ag:n<=ss.length)(h:∀k,k<n->¬((ss.getD k Ste.zero).dst<=c/\c<(ss.getD k Ste.zero).dst+(ss.getD k Ste.zero).len)):fZ ss n c=false:=by
 induction n<;>grind[uJ,uK]
theorem aS.qbm(h:Zp:=by
 have aD:V _:=f.keep aG yaa;have HL:V _:=hb;have HN:V _:=f.len;have HK:V _:=aG;clear aG f hb;go_enter func48,ntmps48;go_wp2_with fail;generalize w.alloc _=aH at T HK aD⊢;go_loopw [7] (λi W=>∃k:Nat,k<=n/\i=h1 k/\V (∀j,j<k->¬((ss.getD j Ste.zero).dst<=a/\a<(ss.getD j Ste.zero).dst+(ss.getD j Ste.zero).len))/\V (Kept 0 0 aH W)) (λi _=>n-(intOf i).toNat)
 case atStart=>exact⟨0,yae,rfl,λj hj=>by omega,Kept.refl _ _ _⟩
 case round=>
  obtain⟨k,O,rfl,be,G⟩:=hrel;obtain⟨_,aP,ay,aB,bz⟩:=T.o.keep G.o;by_cases hlt:k<n
  ·rcases aD.o.at_ with bP|⟨d,bL,bS,aR,bd,bu,bC⟩
   ·omega
   have bw:=(bC k xaa).keep bu G.o yaa;have ai:=HL.o k hlt
   have af:V (¬((ss.getD k _).dst<=a/\a<(ss.getD k _).dst+(ss.getD k _).len)->∀j,j<k+1->_):=λh j hj=>by
    by_cases e:j<k
    ·exact be.o j e
    ·rw[show j=k by omega];exact h
   have bI:V ((ss.getD k _).dst<=a/\a<(ss.getD k _).dst+(ss.getD k _).len->_):=λh=>BH hlt (i1 HN.o ag) h;subst bS;clear aR bd bu bC be;generalize ss.getD k _=s at bw ai af bI;obtain⟨bR,aM,bi,aI,r,aC,a7,bT⟩:=bw;have X:IntKind.i64.wrap (s.dst+s.len)=s.dst+s.len:=by rw[IntKind.wrap_i64];omega
   have cc:k<ae:=xaa;by_cases u:s.dst<=a
   ·by_cases u2:a<s.dst+s.len
    ·have R:V _:=bI.o ⟨u,u2⟩;have R2:V _:=Kept.trans HK.o G.o;clear bI af G ai;go_wp2_with fail;go_quiet (fail)
     go_wp2;go_ret;exact⟨i4 R.o,Kept.trans R2.o (eH 0 0 _ _)⟩
    have R:V _:=af.o (λc=>u2 c.2);have N:=yay u2;exact xfi
   have R:V _:=af.o (λc=>u c.1);have ah:=yay u;exact xfi
  have R:V (fZ ss n a=false):=by
   have:=be.o;rw[show k=n by omega]at this;exact AK (i1 HN.o ag) this
  exact xhk):Zp:=h
open aS in
theorem LI(w lo hi a1 J a3 Z c1 ae c2 ab c3 aL ss)(f:TS w lo hi J ae ss)(n)(ag:n<=ae)(bv:ae<=1048576)(hb:Lie ss n)(a):
  Calls prog 48 #[iQ a1 Z c1 J ae c2 a3 ab c3 aL,h1 n,h1 a] w λe B=>e=.returned (.bool (fZ ss n a))/\Kept 0 0 w B:=by
 exact qbl
theorem It{n a off len}(h:kM off len a=false):jA ss n a off len=false:=by
 unfold jA;rw[h];rfl
theorem BS(w a1 J a3 Z c1 ae c2 ab c3 aL)(bH:0<=aL)(bk:aL<=50000)(n:Nat)(off size)(h:¬(1<=size/\size<=1000/\0<=off/\off<=aL-size)):
  Calls prog 22 #[iQ a1 Z c1 J ae c2 a3 ab c3 aL,h1 n,h1 off,h1 size] w λe B=>e=.returned (.bool false)/\Kept 0 0 w B:=by
 have aG:=eA 0 0 w (iE a1 Z c1 J ae c2 a3 ab c3 aL);by_cases cg:size<1
 ·exact xez
 have bL:=yay cg;by_cases a1:1000<size
 ·exact xez
 have U:=yay a1;by_cases J:off<0
 ·exact xez
 have aV:=yay J;have a3:aL-size<off:=xaa;have X:IntKind.i64.wrap (aL-size)=aL-size:=by rw[IntKind.wrap_i64];omega
 exact xez
theorem aT.qbm(h:Zp:=by
 have aD:V _:=f.keep aG yaa;have HL:V _:=hb;have HK:V _:=aG;have X:IntKind.i64.wrap (aL-size)=aL-size:=by rw[IntKind.wrap_i64];omega
 have bL:decide ((size:Int)<1)=false:=yay xaa;have U:decide (1000<(size:Int))=false:=yay xaa;have aV:decide (off<0)=false:=yay xaa;have aa:decide (aL-size<off)=false:=yay xaa;clear aG f hb;go_enter func22,ntmps22;go_wp2_with fail;clear bL U aV aa X;generalize w.alloc _=aH at T HK aD⊢;go_loopw [9] (λi W=>∃k:Nat,k<=size/\i=h1 k/\V ((List.range k).all (λj=>fZ ss n (off+(j:Nat)))=true)/\V (Kept 0 0 aH W)) (λi _=>size-(intOf i).toNat)
 case atStart=>exact⟨0,yae,rfl,rfl,Kept.refl _ _ _⟩
 case round=>
  obtain⟨k,O,rfl,be,G⟩:=hrel;obtain⟨_,aP,ay,aB,bz⟩:=T.o.keep G.o;by_cases hlt:k<size
  ·have HX:V _:=LI _ _ _ a1 _ a3 Z c1 _ c2 ab c3 aL _ (aD.o.keep G.o yaa) n ag bv HL.o (off+k);have X:IntKind.i64.wrap (off+k)=off+k:=by rw[IntKind.wrap_i64];omega
   cases t:fZ ss n (off+(k:Nat))
   ·have R:V _:=jh (p:=λj=>fZ _ n (off+j)) hlt t;rw[t]at HX;go_wp2_with fail;refine yaj HX.o ?_;rintro e am ⟨rfl,bM⟩;have R2:V _:=Kept.trans HK.o (Kept.trans G.o bM);clear bM HX be G aP ay aB bz;go_wp2;go_ret;exact⟨i4 R.o,R2.o⟩
   have R:V _:=ig be.o t;rw[t]at HX;go_wp2_with fail;refine yaj HX.o ?_;rintro e am ⟨rfl,bM⟩;have R2:V _:=Kept.trans G.o bM;clear bM HX be G aP ay aB bz;go_wp2;grind[intOf]
  have R:V ((List.range size).all (λj=>fZ ss n (off+j))=true):=by grind
  exact xhk):Zp:=h
open aT in
theorem EE(w lo hi a1 J a3 Z c1 ae c2 ab c3 aL)(bH:0<=aL)(bk:aL<=50000)(ss)(f:TS w lo hi J ae ss)(n)(ag:n<=ae)(bv:ae<=1048576)(hb:Lie ss n)(off:Int)(size:Nat)(F:1<=size)(h2:size<=1000)(h3:0<=off)(h4:off<=aL-size):
  Calls prog 22 #[iQ a1 Z c1 J ae c2 a3 ab c3 aL,h1 n,h1 off,h1 size] w λe B=>e=.returned (.bool ((List.range size).all λj=>fZ ss n (off+(j:Nat))))/\Kept 0 0 w B:=by
 exact qbl
theorem Iu(w lo hi a1 J a3 Z c1 ae c2 ab c3 aL)(bH:0<=aL)(bk:aL<=50000)(ss)(f:TS w lo hi J ae ss)(n)(ag:n<=ae)(bv:ae<=1048576)(hb:Lie ss n)(off size):
  Calls prog 22 #[iQ a1 Z c1 J ae c2 a3 ab c3 aL,h1 n,h1 off,h1 size] w λe B=>e=.returned (.bool (lenB size&&jA ss n aL off size))/\Kept 0 0 w B:=by
 by_cases h:1<=size/\size<=1000/\0<=off/\off<=aL-size
 ·obtain⟨F,h2,h3,h4⟩:=h;obtain⟨m,rfl⟩:=Int.eq_ofNat_of_zero_le (by omega:0<=size);have e:(lenB m&&jA ss n aL off m)=((List.range m).all λj=>fZ ss n (off+j)):=by grind[jA,kM,iV]
  rw[e];exact EE w _ _ _ _ _ _ _ _ _ _ _ _ bH bk _ f n ag bv hb _ m xaa xaa h3 h4
 have e:(lenB size&&jA ss n aL off size)=false:=by
  by_cases ai:1<=size/\size<=1000
  ·rw[It (yay (λc=>h ⟨ai.1,ai.2,c.1,c.2⟩)),Bool.and_false]
  rw[mY ai];rfl
 rw[e];exact BS w _ _ _ _ _ _ _ _ _ _ bH bk n _ _ h
end
section
variable{xss rs:List (List Nat)}{ss:List Ste}{n:Nat}
def iO(ss:List Ste)(rs:List (List Nat)):Nat->Int->Nat
 |0,_=>0
 |n+1,c=>if (ss.getD n Ste.zero).dst<=c/\c<(ss.getD n Ste.zero).dst+(ss.getD n Ste.zero).len then (rs.getD n []).getD (c-(ss.getD n Ste.zero).dst).toNat 0 else iO ss rs n c
def i7(ss:List Ste)(rs:List (List Nat))(n:Nat)(off len:Int):List Nat:=(List.range len.toNat).map λj=>iO ss rs n (off+(j:Nat))
def doM(xss:List (List Nat))(ss:List Ste)(rs:List (List Nat))(n:Nat)(s:Ste):List Nat:=
 if s.op=0 then xss.getD s.a.toNat [] else
  jN s.op s.len s.c s.k (if 0<cnt s.op then i7 ss rs n s.a s.n else[]) (if 1<cnt s.op then i7 ss rs n s.b s.len else[]) (if 2<cnt s.op then i7 ss rs n s.c s.len else[])
def gl(xss:List (List Nat))(ss:List Ste):Nat->List (List Nat)
 |0=>[]
 |i+1=>gl xss ss i++[doM xss ss (gl xss ss i) i (ss.getD i Ste.zero)]
def pI(xss:List (List Nat))(ss:List Ste)(os:List Spn):List (List Nat):=os.map λp=>i7 ss (gl xss ss ss.length) ss.length p.off p.len
theorem jH(xss ss):∀i,(gl xss ss i).length=i
 |0=>rfl
 |i+1=>by rw[gl,yal,jH _ _ i];rfl
theorem mW(xss ss){i j}(h:j<i):(gl xss ss (i+1)).getD j []=(gl xss ss i).getD j []:=by
 rw[gl,yai,yat (by rw[jH];exact h),<-yai]
theorem oU(xss ss i):(gl xss ss (i+1)).getD i []=doM xss ss (gl xss ss i) i (ss.getD i Ste.zero):=by
 rw[gl,yai,yas (by rw[jH];exact yad),jH,Nat.sub_self];rfl
theorem sA{ss rs r}:∀{n:Nat},(∀k,k<n->rs.getD k []=r.getD k [])->∀c,iO ss rs n c=iO ss r n c
 |0,_,_=>rfl
 |n+1,h,c=>by
  unfold iO
  rw[h n yaf,sA (λk O=>h k xaa) c]
theorem BT(xss ss n c):iO ss (gl xss ss (n+1)) (n+1) c=if (ss.getD n Ste.zero).dst<=c/\c<(ss.getD n Ste.zero).dst+(ss.getD n Ste.zero).len then (doM xss ss (gl xss ss n) n (ss.getD n Ste.zero)).getD (c-(ss.getD n Ste.zero).dst).toNat 0 else iO ss (gl xss ss n) n c:=by
 rw[iO,oU,sA (λk O=>mW _ _ O)]
theorem lh(ss rs n off len):(i7 ss rs n off len).length=len.toNat:=by simp[i7]
theorem uU{off len k}(h:k<len.toNat):(i7 ss rs n off len).getD k 0=iO ss rs n (off+(k:Nat)):=by
 simp[i7,List.getD_eq_getElem?_getD,h]
theorem AL{ss rs}(h:jd rs):∀n c,iO ss rs n c<18446744073709551616
 |0,_=>by show 0<18446744073709551616;decide
 |n+1,c=>by
  unfold iO
  split
  ·exact gh (h n) _
  ·exact AL h n c
theorem mw(h:jd rs)(n off len):∀x∈i7 ss rs n off len,x<18446744073709551616:=by
 intro x ap;obtain⟨k,_,rfl⟩:=List.mem_map.1 ap;exact AL h _ _
theorem O5{s}(ap:jd xss)(aw:s.k<18446744073709551616)(aF:jd rs):∀x∈doM xss ss rs n s,x<18446744073709551616:=by
 unfold doM;split
 ·exact ap _
 exact Kp aw (nG (mw aF _ _ _)) (nG (mw aF _ _ _)) (nG (mw aF _ _ _))
theorem uV{xss ss}(ap:jd xss)(aN:∀k,(ss.getD k Ste.zero).k<18446744073709551616):∀i,jd (gl xss ss i)
 |0=>λk x h=>by simp[gl]at h
 |i+1=>λk x h=>by
  have G:=uV ap aN i
  rcases Nat.lt_trichotomy k i with c|c|c
  ·rw[mW _ _ c]at h;exact G k x h
  ·subst c;rw[oU]at h;exact O5 ap (aN _) G x h
  ·rw[yai,List.getElem?_eq_none (by rw[jH];omega)]at h;cases h
theorem C3{ins s}(hi:inB ins xss=true)(h:fA ins s=true):((doM xss ss rs n s).length:Int)=s.len:=by
 have ai:=jV h;unfold doM;by_cases ak:s.op=0
 ·rw[h7 ak];unfold fA at h;rw[h7 ak]at h;simp only[Bool.and_eq_true]at h;have h3:=h.2;have az:=of_decide_eq_true h3.1;unfold inB at hi;rw[Bool.and_eq_true]at hi;have ap:=List.all_eq_true.1 hi.2 s.a.toNat (List.mem_range.2 xaa);rw[beq_iff_eq.1 ap];exact beq_iff_eq.1 h3.2
 rw[h6 ak];have aw:=qb h ak;have ag:=λal=>uI h al;have al:=gK s.op;rw[GI]
 ·omega
 unfold jQ;rw[iV ai.1 ai.2,Bool.true_and];have bg:((i7 ss rs n s.b s.len).length:Int)=s.len:=by rw[lh];omega
 have ah:((i7 ss rs n s.c s.len).length:Int)=s.len:=by rw[lh];omega
 have af:0<cnt _->((i7 ss rs n s.a s.n).length:Int)=s.n:=λal=>by have:=ag al;rw[lh];omega
 rcases (by omega:cnt s.op=0\/cnt s.op=1\/cnt s.op=2\/cnt s.op=3) with e|e|e|e
 ·rw[e]at aw⊢;exact aw
 ·rw[e]at aw af⊢;simp only[List.take_succ_cons,List.take_zero]at aw⊢;rw[h7 xaa,af xaa];exact aw
 ·rw[e]at aw af⊢;simp only[List.take_succ_cons,List.take_zero]at aw⊢;rw[h7 xaa,h7 xaa,af xaa,bg];exact aw
 rw[e]at aw af⊢;simp only[List.take_succ_cons,List.take_zero]at aw⊢;rw[h7 xaa,h7 xaa,h7 xaa,af xaa,bg,ah];exact aw
end
section
attribute[local go_sem] eE eD eC
variable{w B:World}{lo hi' k A n I cap bc aS:Nat}{ys:List Nat}{xss rs Q:List (List Nat)}{a b:Option Addr}{xs ins:List Int}{v bF bB bG:Value}
theorem O6(w lo hi a b n m bc cb ins xss)(f:IS w lo hi a n ins)(g:SS w b m xss)(ag:n<=1099511627776):
  Calls prog 23 #[.slice a n bc,.slice b m cb] w λe B=>e=.returned (.bool (inB ins xss))/\Drawn w B:=by
 have aD:V _:=f;have bv:V _:=g;have HL:V (ins.length=n/\xss.length=m):=⟨f.len,g.len⟩
 clear f g;by_cases al:m=n
 ·subst al;go_enter func23,ntmps23;go_wp2_with fail;go_loopw [5] (λi W=>∃k:Nat,k<=m/\i=h1 k/\V ((List.range k).all (λi=>((xss.getD i []).length:Int)==ins.getD i 0)=true)/\V (Drawn w W)) (λi _=>m-(intOf i).toNat)
  case atStart=>exact⟨0,yae,rfl,rfl,Drawn.refl _⟩
  case round=>
   obtain⟨k,O,rfl,be,bx⟩:=hrel;by_cases hlt:k<m
   ·rcases aD.o.at_ with bP|⟨d,bL,bS,aR,bd,bu,bC⟩
    ·omega
    rcases bv.o.at_ with bP|⟨aa,aZ,ck,aJ,y2⟩
    ·omega
    have c1:=(bx.o.cell _).trans (bC k hlt);obtain⟨aV,z,j,_,_⟩:=y2 k hlt;have c2:=(bx.o.cell _).trans j;have bE:(0:Int)<=k:=xaa;have bm:(k:Int)<m:=xaa;subst bS ck;clear aR bd bu bC aJ y2 j;cases ap:(((xss.getD k []).length:Int)==ins.getD k 0)
    ·have R:V (inB ins xss=false):=by
      show inB ins xss=false;unfold inB;rw[HL.o.1,jh hlt ap,Bool.and_false]
     have aj:(((xss.getD k []).length:Int) !=ins.getD k 0)=true:=by rw[bne,ap];rfl
     generalize (xss.getD k _).length=y at c2 aj;generalize ins.getD k 0=x at c1 aj;clear ap be;go_wp2_with fail;go_quiet (fail)
     go_wp2;go_ret;exact⟨i4 R.o,Drawn.more bx.o _⟩
    have R:V _:=ig be.o ap;have aj:(((xss.getD k []).length:Int) !=ins.getD k 0)=false:=by rw[bne,ap];rfl
    generalize (xss.getD k _).length=y at c2 aj;generalize ins.getD k 0=x at c1 aj;clear ap be;go_wp2_with fail;go_quiet (fail)
    go_wp2;go_roundw;exact⟨k+1,by omega,by go_num,R,Drawn.more bx.o _⟩;simp[intOf];omega
   have R:V (inB ins xss=true):=by
    exact xgp
   clear be;go_wp2;go_ret;exact⟨i4 R.o,bx.o⟩
 have e:inB ins xss=false:=by
  exact xiy
 rw[e];have t:((n:Int) !=m)=true:=by simp;omega
 go_enter func23,ntmps23;go_wp2;go_ret;exact⟨rfl,Drawn.refl _⟩
theorem O7(w g off n c xs)(ag:1<=n)(bv:n<=1000000)(ap:xs.length=n)(hlt:∀x∈xs,x<18446744073709551616)(al:∀k,k<n->w.cell? ⟨g,off+k,none⟩=some (.float .f64 (xs.getD k 0))):
  Calls prog 49 #[.slice (some ⟨g,off,none⟩) n c] w λe B=>∃G cap,e=.returned (h0 G n cap)/\n<=cap/\FO B G n xs/\w.heap.size<=G/\Kept 0 0 w B:=by
 obtain⟨b1,hi,hz0,hz1,hz2⟩:=info_parts vH;have HN:V _:=tr ap al;have HO:V _:=yaw w w.heap.size 45 1;have HX:V _:=ap;have aG:V _:=hlt;clear al ap hlt;go_enter func49,ntmps49;go_wp2_with (first|(at_builtin;refine wpList_append_own _ rfl _ _ _ rfl _ 45 _ _ 1 8 underlying56 hi hz0 hz1 hz2 rfl xab _ _ _ rfl HO.o _ n c _ rfl ?c0 HN.o ?c2 ?c3 ?c4 ?c5 ?_))
 case c0=>exact HX.o
 case c2=>intro u a6;rfl
 case c3=>unfold maxLen;omega
 case c4=>omega
 intro v' bn bU bK _;have bq:bn.ownsRow w.heap.size 45 1 v' n (xs.map (Value.float .f64)):=by simpa using bU
 obtain⟨G,cap,rfl,U,aV,aa⟩:=FO.of_own bq xaa HX.o aG.o;have R:V _:=iK bK (λk O=>by simp[Value.ownBlock]at O) (Kept.refl 0 0 w) yad;clear bU bK bq;go_wp2;go_ret;exact⟨G,_,by simp,aV,aa,U,R.o⟩
def RLr(w:World)(rv:Value)(n:Nat)(rs:List (List Nat)):Prop:=
 n=0\/∃g cap,rv=.slice (some ⟨g,0,none⟩) n cap/\g<w.heap.size/\∀j,j<n->∃b m c,w.cell? ⟨g,j,none⟩=some (.slice b m c)/\Cl w (.slice b m c) (rs.getD j [])
theorem RLr.keep{cX}(f:RLr w cX n rs)(k:Kept 0 0 w B):RLr B cX n rs:=by
 rcases f with h|⟨g,cap,e,F,h2⟩
 ·exact .inl h
 refine .inr ⟨g,_,e,yak F k.size,λj hj=>?_⟩;obtain⟨b,m,c,a1,J⟩:=h2 j hj;exact⟨b,m,c,iI k F a1,J.keep k⟩
theorem AR.rl{W base}(f:AR W base v k Q):RLr W v k Q:=by
 rcases Nat.eq_zero_or_pos k with h|h
 ·exact .inl h
 obtain⟨g,cap,e,_,aK,al⟩:=f.cell h;refine .inr ⟨g,_,e,aK,λj hj=>?_⟩;grind
def LM(ss:List Ste)(rs:List (List Nat))(n:Nat):Prop:=∀k,k<n->((rs.getD k []).length:Int)=(ss.getD k Ste.zero).len
theorem aU.qbm(h:Zp:=by
 have aD:V _:=f.keep aG yaa;have HR:V (RLr _ _ n _):=K.keep aG;have cM:V _:=hb;have b2:V _:=bV;have HK:V _:=aG;have X:IntKind.i64.wrap (n-1)=n-1:=by rw[IntKind.wrap_i64];omega
 clear aG f hb bV K;go_enter func69,ntmps69;go_wp2_with fail;generalize w.alloc _=aH at T HK aD HR⊢;clear X;go_loopw [9] (λi W=>∃k:Nat,k<=n/\i=h1 ((k:Int)-1)/\V (iO ss rs n (C:Int)=iO ss rs k (C:Int))/\V (Kept 0 0 aH W)) (λi _=>(intOf i+1).toNat)
 case atStart=>exact⟨n,yad,rfl,rfl,Kept.refl _ _ _⟩
 case round=>
  obtain⟨k,O,h,be,G⟩:=hrel;obtain⟨_,aP,ay,aB,bz⟩:=T.o.keep G.o;rcases k with _|j
  ·obtain rfl:u9=.int _ (-1):=h;have R:V (iO _ _ n _=0):=be.o;have R2:V _:=Kept.trans HK.o G.o;clear be G;go_wp2;go_ret;exact⟨⟨0,rfl,by decide,by rw[R.o]⟩,R2.o⟩
  obtain rfl:u9=h1 j:=by rw[h];congr 1;omega
  rcases aD.o.at_ with bP|⟨d,bL,bS,aR,bd,bu,bC⟩
  ·omega
  have bw:=(bC j xaa).keep bu G.o yaa;have ai:=cM.o j xaa;have bZ:=b2.o j xaa;have au:V (iO _ _ n _=if (ss.getD j _).dst<=C/\C<(ss.getD j _).dst+(ss.getD j _).len then (rs.getD j _).getD _ 0 else iO _ _ j _):=be.o;generalize ss.getD j _=s at bw ai bZ au;have bj:=eA 0 0 wr s.box;obtain⟨bF,bB,bG,b3,cu,aa,bn,bM⟩:=jD wr s;simp only[Nat.zero_add]at bB bG b3 cu aa bn bM;subst bS;obtain⟨bR,aM,bi,aI,r,aC,a7,bT⟩:=bw;have aq:j<ae:=xaa;have X:IntKind.i64.wrap (s.dst+s.len)=s.dst+s.len:=by rw[IntKind.wrap_i64];omega
  have ad:IntKind.i64.wrap (j-1)=j-1:=by rw[IntKind.wrap_i64];omega
  have R2:V _:=Kept.trans G.o bj;have R3:V _:=Kept.trans HK.o R2.o;clear aR bd bu bC h be;by_cases u:s.dst<=C
  ·by_cases u2:C<s.dst+s.len
   ·rcases RLr.keep HR.o R2.o with ak|⟨b4,U,F,aK,al⟩
    ·omega
    obtain⟨b,m,c,b5,a0⟩:=al j xaa;obtain⟨S,g,t,zs,H,bX,a5,aw⟩:=a0;cases H;have af:=jp aw;have bg:=a5.len;obtain⟨D,bx⟩:=Int.eq_ofNat_of_zero_le ai.1;rcases a5.at_ with ak|⟨Y,am,z,_,_,_,y⟩
    ·omega
    have b9:=y (C-D) xaa
    have R:V (fb (zs.getD (C-D) 0)=fb (iO ss rs n (C:Int))):=by
     show _=_;rw[au.o,h7 ⟨u,u2⟩,bx,show((C:Int)-(D:Nat)).toNat=C-D by omega];exact gD aw _
    have l:V (zs.getD (C-D) 0<18446744073709551616):=gh a5.lt _;have bf:IntKind.i64.wrap (C-s.dst)=(C-D:Nat):=by rw[IntKind.wrap_i64];omega
    have cq:(0:Int)<=(C-D:Nat):=xaa;have cc:(C-D:Nat)<(m:Int):=xaa;have ds:(0:Int)<=j:=xaa;have gr:(j:Int)<n:=xaa;have P:C-D<m:=xaa;have aj:j<n:=xaa;subst F z;generalize zs.getD _ 0=x at b9 R l;clear au aw a5 al bZ y G;generalize C-D=o at b9 bf cq cc P;clear bx;go_wp2_with fail;go_quiet (fail)
    go_wp2;go_ret;exact⟨⟨x,rfl,l.o,R.o⟩,Kept.trans R3.o (eH 0 0 _ _)⟩
   have R:V (iO ss rs n (C:Int)=iO ss rs j (C:Int)):=by show _=_;rw[au.o,h6 (λc=>u2 c.2)]
   have N:decide _=false:=yay u2;exact xgl
  have R:V (iO ss rs n (C:Int)=iO ss rs j (C:Int)):=by show _=_;rw[au.o,h6 (λc=>u c.1)]
  have ah:decide _=false:=yay u;exact xgl):Zp:=h
open aU in
theorem O8(w lo hi a1 J a3 Z c1 ae c2 ab c3 aL ss rs cX)(f:TS w lo hi J ae ss)(n)(K:RLr w cX n rs)(ag:n<=ae)(bv:ae<=1048576)(hb:Lie ss n)(bV:LM ss rs n)(C:Nat)(_hC:C<=100000):
  Calls prog 69 #[iQ a1 Z c1 J ae c2 a3 ab c3 aL,cX,h1 n,h1 C] w λe B=>(∃x,e=.returned (.float .f64 x)/\x<18446744073709551616/\fb x=fb (iO ss rs n (C:Int)))/\Kept 0 0 w B:=by
 exact qbl
theorem aV.qbm(h:Zp:=by
 have aD:V _:=f.keep aG yaa;have HR:V (RLr _ _ n _):=K.keep aG;have cM:V _:=hb;have b2:V _:=bV;have HK:V _:=aG;clear aG f hb bV K;go_enter func50,ntmps50;go_wp2_with fail;generalize w.alloc _=aH at T HK aD HR⊢;go_loopw [11,12] (λv i W=>∃k:Nat,k<=m/\i=h1 k/\V (Grow aH k (λj=>iO ss rs n ((o+j:Nat):Int)) v W)) (λ_ i _=>m-(intOf i).toNat)
 case atStart=>exact⟨0,yae,rfl,uj _ _⟩
 case round=>
  obtain⟨k,O,rfl,br⟩:=hrel;have g:Kept 0 0 _ _:=Grow.kept br.o;obtain⟨_,aP,ay,aB,bz⟩:=T.o.keep g;by_cases hlt:k<m
  ·obtain⟨zs,bq,l,r,d,_⟩:=br.o;have HX:V _:=O8 _ _ _ a1 _ a3 Z c1 _ c2 ab c3 aL _ _ _ (aD.o.keep g yaa) n (RLr.keep HR.o g) ag bv cM.o b2.o (o+k) xaa;have X:IntKind.i64.wrap (o+k)=(o+k:Nat):=by rw[IntKind.wrap_i64];omega
   go_wp2_with fail;refine yaj HX.o ?_;rintro e am ⟨⟨x,rfl,cw,cj⟩,av⟩;have y:=eN bq av;have h:=Kept.trans g av;have t:=h.size;clear HX aP ay aB bz br;go_wp2_with (first|(at_builtin;refine wpList_append_own _ rfl _ _ _ rfl _ 45 _ _ 1 8 underlying56 bd hz0 hz1 hz2 rfl xab _ _ _ rfl (y.alloc _) _ 1 1 [.float .f64 x] rfl rfl ?c1 ?c2 ?c3 ?c4 ?c5 ?_))
   case c1=>exact cell_one_new _ _ _
   case c2=>intro u a6;simp at a6;subst a6;rfl
   case c3=>unfold maxLen;omega
   case c4=>omega
   case c5=>simp;omega
   intro v' bn bU bK _;have R:V _:=Grow.step y l r d h cw cj bU bK;clear bU bK bq y l r d g h av cw cj;go_wp2;exact xaw
  obtain rfl:k=m:=xaa;have R:V _:=Grow.done br.o cG HK.o;clear br g;go_wp2;go_ret;exact R.o):Zp:=h
open aV in
theorem Iv(w lo hi a1 J a3 Z c1 ae c2 ab c3 aL ss rs cX)(f:TS w lo hi J ae ss)(n)(K:RLr w cX n rs)(ag:n<=ae)(bv:ae<=1048576)(hb:Lie ss n)(bV:LM ss rs n)(o m:Nat)(cG:1<=m)(ao:m<=1000)(ho:o<=60000):
  Calls prog 50 #[iQ a1 Z c1 J ae c2 a3 ab c3 aL,cX,h1 n,h1 o,h1 m] w λe B=>KS m (λj=>iO ss rs n ((o+j:Nat):Int)) w e B:=by
 obtain⟨b1,bd,hz0,hz1,hz2⟩:=info_parts vH;exact qbl
theorem KS.cn{ss o m e}(h:KS m (λj=>iO ss rs n ((o+j:Nat):Int)) w e B):∃u,e=.returned u/\Cn B w.heap.size u (i7 ss rs n (o:Int) (m:Int))/\Kept 0 0 w B:=by
 obtain⟨a,cap,zs,rfl,F,h2,h3,h4⟩:=h;refine⟨_,rfl,⟨a,m,_,_,rfl,h4,F,?_⟩,h3⟩;refine pd (by rw[F.len,lh];omega) λk O=>?_;rw[F.len]at O;rw[h2 k O,uU xaa];congr 2
theorem tF{W H}{us:List Value}(h:∀j,j<k->∃b n c,us[j]? =some (.slice b n c)/\Cl W (.slice b n c) (Q.getD j [])/\(0<n->∀p,b=some p->v.ownBlock≠some p.block))(q:Kept 0 0 W H):
  ∀j,j<k->∃b n c,us[j]? =some (.slice b n c)/\Cl H (.slice b n c) (Q.getD j [])/\(0<n->∀p,b=some p->v.ownBlock≠some p.block):=λj hj=>by
 obtain⟨b,n,c,a1,J,a3⟩:=h j hj
 exact⟨b,n,c,a1,J.keep q,a3⟩
theorem uW(h:xss.length=k):(xss++[ys]).getD k []=ys:=by
 rw[yai,yas xaa,h,Nat.sub_self];rfl
def NC(w':World)(A B:Nat)(v:Vl)(x0 x1 x2:Value):Prop:=
 w'.cell? ⟨A,0,none⟩=some (.int .i64 v.op)/\w'.cell? ⟨A,0+1,none⟩=some (.int .i64 v.len)/\w'.cell? ⟨A,0+2,none⟩=some (.int .i64 v.a)/\w'.cell? ⟨A,0+3,none⟩=some (.int .i64 v.b)/\w'.cell? ⟨A,0+4,none⟩=some (.int .i64 v.c)/\w'.cell? ⟨A,0+5,none⟩=some (.float .f64 v.k)/\w'.cell? ⟨B,0,none⟩=some x0/\w'.cell? ⟨B,1,none⟩=some x1/\w'.cell? ⟨B,2,none⟩=some x2
theorem NC.of{v}(h:NC w A I v bF bB bG)(e:∀g o u,(g=A\/g=I)->w.cell? ⟨g,o,none⟩=some u->B.cell? ⟨g,o,none⟩=some u):NC B A I v bF bB bG:=by
 obtain⟨ak,F,h2,h3,h4,bK,b3,bZ,ar⟩:=h;exact⟨e _ _ _ (.inl rfl) ak,e _ _ _ (.inl rfl) F,e _ _ _ (.inl rfl) h2,e _ _ _ (.inl rfl) h3,e _ _ _ (.inl rfl) h4,e _ _ _ (.inl rfl) bK,e _ _ _ (.inr rfl) b3,e _ _ _ (.inr rfl) bZ,e _ _ _ (.inr rfl) ar⟩
theorem NC.keep{v}(h:NC w A I v bF bB bG)(k:Kept 0 0 w B)(be:A<w.heap.size)(a7:I<w.heap.size):NC B A I v bF bB bG:=
 h.of λg o u aK al=>iI k (by rcases aK with rfl|rfl;exact be;exact a7) al
theorem NC.far{bM N v}(h:NC w A I v bF bB bG)(aK:w.grownBy B bM)(aF:∀i,bM=some i->i<N)(e:N<=A)(d:N<=I)(be:A<w.heap.size)(a7:I<w.heap.size):NC B A I v bF bB bG:=
 h.of λg o u j al=>by
  rw[aK.cell_far _ (by rcases j with rfl|rfl;exact be;exact a7) (λc=>ix (aF g c.symm))]
  exact al
def OS(w:World)(lo:Nat)(a:Option Addr)(n cap:Nat)(zss:List (List Nat)):Prop:=
 (a=none/\n=0/\cap=0/\zss=[])\/∃g gf cf,a=some ⟨g,0,none⟩/\lo<=g/\SP w g n n gf cf zss/\zss.length=n
theorem OS.ss{z}(h:OS w lo a n cap z):SS w a n z:=by
 rcases h with⟨rfl,rfl,rfl,rfl⟩|⟨g,be,co,rfl,F,h2,h3⟩
 ·exact⟨rfl,.inl rfl⟩
 exact h2.ss h3
def lJ(xs:List Int)(i:Nat):Nat:=if xs.length=0 then 0 else (xs.getD (i%xs.length) 0).toNat
theorem Iw(h:YS w a n xs)(i):lJ xs i<256:=by
 unfold lJ;split
 ·omega
 rename_i ak;have ao:i%xs.length<xs.length:=Nat.mod_lt _ xaa;rw[yai,yam ao];have:=h.lt _ (List.getElem_mem ao);show(xs[i%xs.length]).toNat<256;omega
theorem Qy(h:YS w a n xs)(ag:n<=1048576)(i:Nat):
  Calls prog 25 #[.slice a n cap,h1 i] w λe B=>e=.returned (h1 (lJ xs i:Int))/\B=w:=by
 have ai:=h.len;by_cases ak:n=0
 ·have HR:V ((lJ xs i:Int)=0):=by show _=_;unfold lJ;rw[h7 xaa];rfl
  have t:(n:Int)<=0:=xaa;clear h ai ak;exact xic
 have ao:i%n<n:=Nat.mod_lt _ xaa
 obtain⟨g,off,rfl,al⟩:∃g off,a=some ⟨g,off,none⟩/\w.cell? ⟨g,off+i%n,none⟩=some (.int .u8 (xs.getD (i%n) 0)):=by
  rcases h.at_ with q|⟨g,off,e,h3,h4⟩
  ·exact absurd q ak
  exact⟨g,off,e,h4 _ ao⟩
 have hb:0<=xs.getD (i%n) 0/\xs.getD (i%n) 0<256:=by
  rw[yai,yam xaa];exact h.lt _ (List.getElem_mem _)
 have HR:V ((lJ xs i:Int)=xs.getD (i%n) 0):=by show _=_;unfold lJ;rw[h6 xaa,ai];omega
 have d:(i:Int).tmod (n:Int)=((i%n:Nat):Int):=rfl;have f:(i:Int)%n=((i%n:Nat):Int):=by rw[Int.natCast_emod]
 obtain⟨am,ax⟩:=hb;generalize xs.getD (i%n) 0=x at al am ax HR;generalize i%n=j at ao al d f;clear h ai;exact xic
def EF(ins:List Int):Nat->Nat
 |0=>0
 |j+1=>EF ins j+(ins.getD j 0).toNat
def inW(ys:List Int)(p:Nat):Nat:=
 if lJ ys p%16=9 then cop .quo (floatOfInt .f64 ((lJ ys p:Int)%7-3)) 4613937818241073152
 else if lJ ys p=250 then cop .quo 4607182418800017408 0
 else if lJ ys p=251 then cop .quo 0 0
 else if lJ ys p=252 then Op.negFloat .f64 0
 else if lJ ys p=253 then cop .mul 9214871658872686752 (floatOfInt .f64 ((lJ ys p:Int)%7-3))
 else floatOfInt .f64 ((lJ ys p:Int)%7-3)
def AM(ys:List Int)(q n:Nat):List Nat:=(List.range n).map λk=>inW ys (q+k)
def inN(ys ins:List Int):List (List Nat):=(List.range ins.length).map λj=>AM ys (EF ins j) (ins.getD j 0).toNat
theorem EG(ys q n):AM ys q (n+1)=AM ys q n++[inW ys (q+n)]:=by
 simp_all[AM,List.range_succ]
theorem C4(ys){j}(h:j<ins.length):(inN ys ins).getD j []=AM ys (EF ins j) (ins.getD j 0).toNat:=by
 unfold inN;grind
theorem EH{xs x y}(h:fS xs ys)(e:fb x=fb y):fS (xs++[x]) (ys++[y]):=by
 unfold fS at*;simp[h,e]
theorem SS.words(f:SS w a n xss):jd xss:=λk x ap=>by
 by_cases c:k<n
 ·rcases f.at_ with z|⟨g,off,_,_,h⟩
  ·omega
  ·obtain⟨b,c,_,_,Y⟩:=h k c
   exact Y.lt x ap
 ·rw[yai,List.getElem?_eq_none (i3 f.len)]at ap
  cases ap
theorem Ix{aj z bP T rs R R'}(h:w.ownsRow I T 1 v n (rs.map (Value.float .f64)++[.float .f64 z]))(aw:fS rs R/\rs.length=aj/\∀x∈rs,x<18446744073709551616)(K:R'=R++[bP])(e:fb z=fb bP)(a5:z<18446744073709551616):
  ∃r:List Nat,w.ownsRow I T 1 v n (r.map (Value.float .f64))/\fS r R'/\r.length=aj+1/\∀x∈r,x<18446744073709551616:=by
 refine⟨rs++[z],by grind,by rw[K];exact EH aw.1 e,by grind,λx ap=>?_⟩;grind
theorem LN{cm ys}(f:IS w lo hi' a n ins)(bp:YS w b aS ys)(ao:aS<=1048576)(ag:n<=21)(ai:∀j,j<n->1<=ins.getD j 0/\ins.getD j 0<=1000):
  Calls prog 7 #[.slice a n bc,.slice b aS cm,.bool true] w λe B=>∃am cap z,e=.returned (.slice am n cap)/\SS B am n z/\(∀j,j<n->fS (z.getD j []) ((inN ys ins).getD j []))/\Kept 0 0 w B:=by
 obtain⟨b1,hi,hz0,hz1,hz2⟩:=info_parts GH;obtain⟨cq,T,Y,Z,ab⟩:=info_parts vH;have aD:V _:=f;have aX:V _:=bp;have HL:V _:=ai;have HN:V _:=f.len;have f1:=@kr prog;have f2:=@l9 prog;have f3:=lT;clear f bp ai;go_enter func7,ntmps7;go_wp2_with fail;go_loopw [8,9,10] (λu p i W=>∃k q:Nat,k<=n/\q<=1000*k/\i=h1 k/\p=h1 q/\V (q=EF ins k)/\V (AR W w.heap.size u k (inN ys ins))/\V (Kept 0 0 w W)) (λ_ _ i _=>n-(intOf i).toNat)
 case atStart=>exact⟨0,0,yae,yae,rfl,rfl,rfl,AR.nil _ _ _,Kept.refl _ _ _⟩
 case round=>
  obtain⟨ax,X⟩:∃ax,ax=wr:=⟨_,rfl⟩
  subst X;obtain⟨k,q,O,aA,rfl,rfl,P,be,aG⟩:=hrel;by_cases hlt:k<n
  ·rcases (aD.o.keep aG.o yaa).at_ with bP|⟨g,off,bS,aR,bd,bu,bC⟩
   ·omega
   cases bS;have cH:=HL.o k hlt;obtain⟨m,K⟩:∃m:Nat,ins.getD k 0=m:=⟨(ins.getD k 0).toNat,by omega⟩
   have ch:V ((inN ys ins).getD k []=AM ys q m):=by
    show _=_;rw[C4 _ (i1 HN.o hlt),K,P.o];rfl
   have ad:V (EF ins (k+1)=q+m):=by show EF ins k+_=_;rw[K,P.o];rfl
   have F:V (ax.cell? _=some (.int _ m)/\g<ax.heap.size):=⟨by rw[<-K];exact bC k hlt,bu⟩
   rw[K]at cH;have cG:m<=1000:=xaa;have HM1:V (1<=m):=by show 1<=m;omega
   obtain⟨us,(co:V _),(cQ:V _)⟩:=be.o;clear aR bd bu bC cH K be;have av:=F.o.1;go_wp2_with fail;clear av;go_loopw [9,11,12] (λp v j W=>∃(aj:Nat) (rs:List Nat),aj<=m/\p=h1 ((q:Int)+aj)/\j=h1 aj/\V (W.ownsRow ax.heap.size 45 1 v aj (rs.map (Value.float .f64)))/\V (fS rs (AM ys q aj)/\rs.length=aj/\∀x∈rs,x<18446744073709551616)/\V (Kept 0 0 ax W)) (λ_ _ j _=>m-(intOf j).toNat)
   case atStart=>exact⟨0,[],yae,by simp,rfl,yaw _ _ _ _,⟨rfl,rfl,λx ap=>by cases ap⟩,Kept.refl _ _ _⟩
   case round=>
    obtain⟨aj,rs,bA,rfl,rfl,l,N,J⟩:=hrel;have cd:=J.o.cell (p:=⟨g,off+k,none⟩) F.o.2 (by show ¬(0<=g/\g<0);omega);rw[F.o.1]at cd;by_cases cz:aj<m
    ·have bI:V (Calls _ _ #[.slice b _ cm,.int _ (q+aj)] _ λe B=>e=.returned _/\wr=B):=(Qy (aX.o.keep (aG.o.trans J.o)) ao _).mono λ_ _ h=>⟨h.1,h.2.symm⟩
     have S:=Iw aX.o (q+aj);have au:V _:=EG ys q aj;obtain⟨bP,a5⟩:∃bP,inW ys (q+aj)=bP:=⟨_,rfl⟩
     rw[a5]at au;unfold inW at a5;have d:V _:=a5.symm;clear a5;generalize lJ _ _=t at bI S d;have bq:=l.o;have b2:=J.o.size;clear l;rcases (by omega:t%16=9\/t=250\/t=251\/t=252\/t=253\/(t%16≠9/\t≠250/\t≠251/\t≠252/\t≠253)) with c|c|c|c|c|c
     case' inl=>have bE:V _:=d.o;rw[h7 c]at bE
     case' inr.inl=>have bE:V _:=d.o;rw[h6 xaa,h7 c]at bE
     case' inr.inr.inl=>have bE:V _:=d.o;rw[h6 xaa,h6 xaa,h7 c]at bE
     case' inr.inr.inr.inl=>have bE:V _:=d.o;rw[h6 xaa,h6 xaa,h6 xaa,h7 c]at bE
     case' inr.inr.inr.inr.inl=>have bE:V _:=d.o;rw[h6 xaa,h6 xaa,h6 xaa,h6 xaa,h7 c]at bE
     case' inr.inr.inr.inr.inr=>have bE:V _:=d.o;rw[h6 xaa,h6 xaa,h6 xaa,h6 xaa,h6 xaa]at bE;obtain⟨c,c2,c3,c4,c5⟩:=c
     all_goals
      clear d
      go_wp2_with (first
       |(go_at_call 25;refine yaj bI.o ?_;rintro _ _ ⟨rfl,rfl⟩)
       |(at_builtin;refine wpList_append_lies _ rfl _ _ 56 rfl ax.heap.size 45 cq (.float .f64 0) 1 8 underlying56 T Y Z ab rfl xab _ _ (rs.map (Value.float .f64)) rfl ((eN bq (eH 0 0 _ _)).alloc _) ⟨wr.heap.size,0,none⟩ 1 1 [.float .f64 ?_] rfl rfl ?c1 ?c2 xab ?c3 ?c4 ?c5 _ rfl ?_)
       |(at_builtin;refine wpList_append_lies _ rfl _ _ 56 rfl ax.heap.size 45 cq (.float .f64 0) 1 8 underlying56 T Y Z ab rfl xab _ _ (rs.map (Value.float .f64)) rfl (bq.alloc _) ⟨wr.heap.size,0,none⟩ 1 1 [.float .f64 ?_] rfl rfl ?c1 ?c2 xab ?c3 ?c4 ?c5 _ rfl ?_))
      case c1=>exact cell_one_new _ _ _
      case c2=>intro u a6;simp at a6;subst a6;rfl
      case c3=>unfold maxLen;omega
      case c4=>omega
      case c5=>simp;omega
      intro g9 cap9 bn bU bK bO _
      obtain⟨r,(R1:V _),(R3:V _)⟩:=Ix bU N.o au.o (by have ae:=congrArg fb bE.o.symm;first|exact ae|exact(fV _ _ _ _).trans ae|(subst c;exact(fV _ _ _ _).trans ae)) (by first|exact gF _ _ _ _|exact qI _|exact nh xab)
      have R2:V _:=iK bK (λi hi=>(eG bq hi).1) (by first|exact J.o.trans (eA 0 0 _ _)|exact(J.o.trans (eA 0 0 _ _)).trans (eH 0 0 _ _)) yad
      clear bU bK bO bq bI J bE au
      go_wp2
      go_roundw;exact⟨aj+1,r,by omega,by go_num,by go_num,R1,R3,R2⟩;simp[intOf];omega
    obtain rfl:aj=m:=xaa;have bq:=l.o;obtain⟨(af:V _),H,a0⟩:=N.o;obtain⟨G,cap,rfl,U,aV,aa⟩:=FO.of_own bq (ix HM1.o) H a0;clear H a0 N;have y:=eN co.o J.o;have b2:=(aG.o.trans J.o).size;have C:V _:=aa;clear l bq;go_wp2_with (first|(at_builtin;refine wpList_append_lies _ rfl _ _ _ rfl _ 56 _ _ 1 _ underlying30 hi hz0 hz1 hz2 rfl xab _ _ _ rfl (y.alloc _) _ 1 1 [h0 G aj cap] rfl rfl ?c1 ?c2 xab ?c3 ?c4 ?c5 _ rfl ?_))
    case c1=>exact cell_one_new _ _ _
    case c2=>intro u a6;simp at a6;subst a6;rfl
    case c3=>unfold maxLen;omega
    case c4=>omega
    case c5=>simp;omega
    intro g9 cap9 bn bU bK bO _
    have R1:V (AR _ _ _ _ _):=
     AR.step y (tF cQ.o J.o) ⟨_,_,_,_,rfl,aV,C.o.fs,af.o⟩ (λ_ p aQ c=>by
      cases aQ
      have:=(eG co.o (k:=G) c).2
      omega) bU bK (by rcases bO with h|h;exact .inl h;exact .inr (by rw[h];simp)) (λj hj=>rfl) ch.o
    have R2:V _:=iK bK (λi hi=>(eG y hi).1) ((aG.o.trans J.o).trans (eA 0 0 _ _)) yad;clear bU bK bO y J cQ co aG U aV aa C;go_wp2;go_roundw;exact⟨k+1,q+aj,by omega,by omega,by go_num,by go_num,ad.o.symm,R1,R2⟩;simp[intOf];omega
  obtain rfl:k=n:=xaa;obtain⟨am,cap,z,rfl,(R:V _),(R3:V _)⟩:=be.o.ss;clear be;go_wp2;go_ret;exact⟨_,_,_,rfl,R.o,R3.o,aG.o⟩
def InO(w:World)(ys ins:List Int)(e:Ending)(w':World):Prop:=
 ∃ia ic xss,e=.returned (.slice ia ins.length ic)/\(SS w' ia ins.length xss/\jd xss/\inB ins xss=true/\∀j,fS (xss.getD j []) ((inN ys ins).getD j []))/\Kept 0 0 w w'
theorem LO{cm ys}(f:IS w lo hi' a ins.length ins)(bp:YS w b aS ys)(ao:aS<=1048576)(ag:ins.length<=20)(ai:ins.all lenB=true):
  Calls prog 7 #[.slice a ins.length bc,.slice b aS cm,.bool true] w (InO w ys ins):=by
 have aN:∀j,j<ins.length->_:=λj hj=>of_decide_eq_true (List.all_eq_true.1 ai (ins.getD j 0) (by simp_all));refine(LN f bp ao xaa aN).mono ?_;rintro e B ⟨ak,b4,xss,F,h2,h3,h4⟩;refine⟨_,_,_,F,⟨h2,h2.words,?_,λj=>?_⟩,h4⟩
 ·unfold inB;rw[h2.len,decide_eq_true rfl,Bool.true_and,List.all_eq_true];intro j hj;have hj:=List.mem_range.1 hj;grind[jp,C4,AM,List.length_map]
 by_cases c:j<ins.length
 ·exact h3 j c
 rw[yai,List.getElem?_eq_none (i3 h2.len),yai,List.getElem?_eq_none (by simp[inN];omega)];rfl
end
section
theorem W0n(s){r}(ak:0<r)(h:r<=9218868437227405312):(FloatKind.f64.format.order (W s r) 0==some .eq)=false:=by
 rw[show FloatKind.f64.format.order _ 0=_ from tL ak h];cases s<;>rfl
theorem O9(x y w)(ap:x<18446744073709551616)(bp:y<18446744073709551616):
  Calls prog 62 #[.float .f64 x,.float .f64 y] w λe B=>e=.returned (.bool ((fb x:Int)==(fb y:Int)))/\B=w:=by
 obtain⟨s,r,aF,rfl⟩:=mX x ap;obtain⟨t,q,aA,rfl⟩:=mX y bp;clear ap bp;by_cases F:r<=9218868437227405312
 ·have Z:=qo (s:=s) F;by_cases h2:q<=9218868437227405312
  ·have ae:=qo (s:=t) h2;rw[xl F,xl h2,PN aF aA];by_cases a5:r=0/\q=0
   ·obtain⟨rfl,rfl⟩:=a5;have a1:FloatKind.f64.format.order (W s 0) 0=some _:=mL;have J:FloatKind.f64.format.order (W t 0) 0=some _:=mL;have U:=λw=>run_float_arith (P:=prog) w .quo 45 .f64 _ (W s 0) _ pL;have aV:=λw=>run_float_arith (P:=prog) w .quo 45 .f64 _ (W t 0) _ pL;have c1:FloatKind.f64.format.order (W s 9218868437227405312) 0=some _:=tL xaa xaa;have c2:FloatKind.f64.format.order (W t 9218868437227405312) 0=some _:=tL xaa xaa;cases s<;>cases t
    all_goals
     go_enter func62,ntmps62
     go_wp2
     go_ret
     exact⟨rfl,rfl⟩
   have bU:(FloatKind.f64.format.order (W s r) (W t q)==some _)=_:=A6 F h2
   rw[show decide _=decide (r=q/\s=t) by
    rw[Bool.eq_iff_iff];simp only[decide_eq_true_eq];constructor
    ·rintro⟨a,b|b⟩
     ·exact⟨a,b⟩
     exact absurd ⟨b,by omega⟩ a5
    rintro⟨a,b⟩;exact⟨a,.inl b⟩]at bU
   generalize decide (r=q/\s=t)=D at bU⊢;by_cases cK:r=0
   ·have d:0<q:=xaa;subst cK;have a1:FloatKind.f64.format.order (W s 0) 0=some _:=mL;have J:=W0n t d h2;exact xil
   have a1:=W0n s (by omega:0<r) F;exact xil
  have ae:=sP (s:=t) (by omega:9218868437227405312<q) aA;rw[xl F,xn xaa aA,show(((9221120237041090560:Nat)):Int)=9221120237041090560 from rfl,(yT F).1];exact xdv
 have Z:=sP (s:=s) (by omega:9218868437227405312<r) aF;by_cases h2:q<=9218868437227405312
 ·have ae:=qo (s:=t) h2;rw[xl h2,xn xaa aF,show(((9221120237041090560:Nat)):Int)=9221120237041090560 from rfl,(yT h2).2];exact xdv
 have ae:=sP (s:=t) (by omega:9218868437227405312<q) aA;rw[xn xaa aF,xn xaa aA,show(((9221120237041090560:Nat):Int)==(9221120237041090560:Nat))=true from beq_self_eq_true _];exact xdv
end
section
attribute[local go_sem] eE eD eC
theorem EI(w a b n c d xs ys)(aN:FS w 0 w.heap.size a n xs)(aO:FS w 0 w.heap.size b n ys)(aw:fS xs ys)(ag:n<=1000000):
  Calls prog 37 #[.slice a n c,.slice b n d] w λe B=>e=.returned (.bool true)/\Kept 0 0 w B:=by
 have bO:V _:=aN;have T:V _:=aO;have au:V _:=aw;clear aN aO aw;go_enter func37,ntmps37;go_wp2_with fail;go_loopw [5] (λi W=>∃k:Nat,k<=n/\i=h1 k/\V (Kept 0 0 w W)) (λi _=>n-(intOf i).toNat)
 case atStart=>exact⟨0,yae,rfl,Kept.refl _ _ _⟩
 case round=>
  obtain⟨k,O,rfl,aG⟩:=hrel;by_cases hlt:k<n
  ·rcases (FS.keep0 bO.o aG.o).at_ with z|⟨g,off,rfl,_,_,_,h4⟩
   ·omega
   rcases (FS.keep0 T.o aG.o).at_ with z|⟨aC,cx,rfl,_,_,_,h⟩
   ·omega
   have bc:=h4 k hlt;have cb:=h k hlt
   have aD:V _:=λW=>by
    have:=O9 (xs.getD k 0) (ys.getD k 0) W (gh bO.o.lt k) (gh T.o.lt k)
    rw[gD au.o k,beq_self_eq_true]at this
    exact this
   generalize xs.getD k 0=x at bc aD;generalize ys.getD k 0=y at cb aD;clear h4 h;go_wp2_with fail;go_region_with (go_at_call 62;refine yaj (aD.o _) ?_;rintro e bD ⟨rfl,rfl⟩)
   all_goals
    go_wp2
    go_roundw;exact⟨k+1,by omega,by go_num,Kept.drew aG.o⟩;simp[intOf];omega
  obtain rfl:k=n:=xaa;go_wp2;go_ret;exact⟨rfl,aG.o⟩
theorem uX(w a b n c d xss cH)(aN:SS w a n xss)(aO:SS w b n cH)(aw:∀k,k<n->fS (xss.getD k []) (cH.getD k [])/\(xss.getD k []).length<=1000000)(ag:n<=1000000):
  Calls prog 11 #[.slice a n c,.slice b n d] w λe B=>e=.returned (.bool true)/\Kept 0 0 w B:=by
 have bO:V _:=aN;have T:V _:=aO;have au:V _:=aw;clear aN aO aw;go_enter func11,ntmps11;go_wp2_with fail;go_loopw [5] (λi W=>∃k:Nat,k<=n/\i=h1 k/\V (Kept 0 0 w W)) (λi _=>n-(intOf i).toNat)
 case atStart=>exact⟨0,yae,rfl,Kept.refl _ _ _⟩
 case round=>
  obtain⟨k,O,rfl,aG⟩:=hrel;by_cases hlt:k<n
  ·rcases (SS.keep bO.o aG.o).at_ with z|⟨g,off,rfl,_,h4⟩
   ·omega
   rcases (SS.keep T.o aG.o).at_ with z|⟨aC,cx,rfl,_,h⟩
   ·omega
   obtain⟨p,q,bc,_,aN⟩:=h4 k hlt;obtain⟨f,j,cb,_,aO⟩:=h k hlt;obtain⟨aw,ai⟩:=au.o k hlt;rw[<-jp aw]at cb aO;have aD:V _:=λW X=>EI W p _ _ q j _ _ (FS.keep0 aN X) (FS.keep0 aO X) aw ai;generalize (xss.getD k _).length=m at bc cb aD;clear h4 h aN aO aw ai;go_wp2_with fail;go_region_with (go_at_call 37;refine yaj (aD.o _ (eF _)) ?_;rintro e bD ⟨rfl,a2⟩;replace aG:V _:=aG.o.trans ((eF _).trans a2);clear a2)
   all_goals
    go_wp2
    go_roundw;exact⟨k+1,by omega,by go_num,by first|exact aG|exact Kept.drew aG.o⟩;simp[intOf];omega
  obtain rfl:k=n:=xaa;go_wp2;go_ret;exact⟨rfl,aG.o⟩
