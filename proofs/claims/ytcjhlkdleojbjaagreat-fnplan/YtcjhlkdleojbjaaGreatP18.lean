import Derived.Test.YtcjhlkdleojbjaaGreatP10
import Derived.Test.YtcjhlkdleojbjaaGreatP17
namespace Go.Proofs.Z
variable{Zp:Prop}
open Tryz Go.RowKit Flt
set_option maxRecDepth 1000000
set_option maxHeartbeats 0
section
attribute[local go_sem] eF eE eD
variable{w B I:World}{lo g p hi lo' l hi' h:Nat}{bE R aS aa:Value}
structure Ste where
 op:Int
 len:Int
 n:Int
 dst:Int
 a:Int
 b:Int
 c:Int
 k:Nat
def Ste.cells(v:Ste):List Value:=[.int .i64 v.op,.int .i64 v.len,.int .i64 v.n,.int .i64 v.dst,.int .i64 v.a,.int .i64 v.b,.int .i64 v.c,.float .f64 v.k]
def Ste.zero:Ste:=⟨0,0,0,0,0,0,0,0⟩
abbrev Ste.agg(v:Ste):Value:=.agg #[.int .i64 v.op,.int .i64 v.len,.int .i64 v.n,.int .i64 v.dst,.int .i64 v.a,.int .i64 v.b,.int .i64 v.c,.float .f64 v.k]
abbrev Ste.box(v:Ste):Obj:=.cells #[.int .i64 v.op,.int .i64 v.len,.int .i64 v.n,.int .i64 v.dst,.int .i64 v.a,.int .i64 v.b,.int .i64 v.c,.float .f64 v.k] 64
structure AtT(w:World)(g o:Nat)(v:Ste):Prop where
 c0:w.cell? ⟨g,o,none⟩=some (.int .i64 v.op)
 c1:w.cell? ⟨g,o+1,none⟩=some (.int .i64 v.len)
 c2:w.cell? ⟨g,o+2,none⟩=some (.int .i64 v.n)
 c3:w.cell? ⟨g,o+3,none⟩=some (.int .i64 v.dst)
 c4:w.cell? ⟨g,o+4,none⟩=some (.int .i64 v.a)
 c5:w.cell? ⟨g,o+5,none⟩=some (.int .i64 v.b)
 c6:w.cell? ⟨g,o+6,none⟩=some (.int .i64 v.c)
 c7:w.cell? ⟨g,o+7,none⟩=some (.float .f64 v.k)
theorem Cg:(prog.info? 64).map (λi=>(i.zero,i.size,i.bytes))=some (some (.agg #[hA 0,hA 0,hA 0,hA 0,hA 0,hA 0,hA 0,.float .f64 0]),8,64):=by kernel_rfl
abbrev GI(w:World)(g o:Nat)(v:Ste):World:=
 ((((((((w.setCell ⟨g,o,none⟩ (.int .i64 v.op)).setCell ⟨g,o+1,none⟩ (.int .i64 v.len)).setCell ⟨g,o+2,none⟩ (.int .i64 v.n)).setCell ⟨g,o+3,none⟩ (.int .i64 v.dst)).setCell ⟨g,o+4,none⟩ (.int .i64 v.a)).setCell ⟨g,o+5,none⟩ (.int .i64 v.b)).setCell ⟨g,o+6,none⟩ (.int .i64 v.c)).setCell ⟨g,o+7,none⟩ (.float .f64 v.k))
theorem Kf(w g o u v)(h:AtT w g o u):AtT (GI w g o v) g o v:=by
 unfold GI;cases h;constructor<;>exact sM
theorem bT.qcp(h:Zp:=by
 exact((((((((k _ _ _).trans (k _ _ _)).trans (k _ _ _)).trans (k _ _ _)).trans (k _ _ _)).trans (k _ _ _)).trans (k _ _ _)).trans (k _ _ _))):Zp:=h
open bT in
theorem DL(w g o v):Kept g (g+1) w (GI w g o v):=by
 unfold GI;exact qco
theorem AtT.keep{o v}(a:AtT w g o v)(aJ:g<w.heap.size)(k:Kept l h w B)(aK:g<l\/h<=g\/h<=l):AtT B g o v:=by
 have e:∀b,_:=λb=>k.cell (p:=⟨g,b,none⟩) aJ (by grind);exact⟨hL e a.c0,hL e a.c1,hL e a.c2,hL e a.c3,hL e a.c4,hL e a.c5,hL e a.c6,hL e a.c7⟩
structure TS(w:World)(lo hi:Nat)(a:Option Addr)(n:Nat)(vs:List Ste):Prop where
 len:vs.length=n
 lt:∀v∈vs,v.k<18446744073709551616
 at_:n=0\/∃g off,a=some ⟨g,off,none⟩/\lo<=g/\g<hi/\g<w.heap.size/\∀k,k<n->AtT w g (off+k*8) (vs.getD k Ste.zero)
theorem TS.keep{a n vs}(f:TS w lo hi a n vs)(k:Kept l h w B)(aK:hi<=l\/h<=lo\/h<=l):TS B lo hi a n vs:=
 ⟨f.len,f.lt,by
  rcases f.at_ with al|⟨g,off,e,F,N,h3,a6⟩
  ·exact .inl al
  ·exact .inr ⟨g,_,e,F,N,yak h3 k.size,λj hj=>(a6 j hj).keep h3 k xaa⟩⟩
theorem TS.mono{a n vs}(f:TS w lo hi a n vs)(F:lo'<=lo)(N:hi<=hi'):TS w lo' hi' a n vs:=
 ⟨f.len,f.lt,by
  rcases f.at_ with al|⟨g,off,e,aC,aL,b1,ba⟩<;>grind⟩
theorem Ch{vs:List Ste}(h:∀v∈vs,v.k<18446744073709551616)(k):(vs.getD k Ste.zero).k<18446744073709551616:=by
 rw[yai];by_cases O:k<vs.length
 ·simp_all
 rw[List.getElem?_eq_none xaa];exact(by decide:Ste.zero.k<18446744073709551616)
structure Spn where
 off:Int
 len:Int
def Spn.cells(v:Spn):List Value:=[.int .i64 v.off,.int .i64 v.len]
def Spn.zero:Spn:=⟨0,0⟩
abbrev Spn.agg(v:Spn):Value:=.agg #[.int .i64 v.off,.int .i64 v.len]
abbrev Spn.box(v:Spn):Obj:=.cells #[.int .i64 v.off,.int .i64 v.len] 67
structure AtP(w:World)(g o:Nat)(v:Spn):Prop where
 c0:w.cell? ⟨g,o,none⟩=some (.int .i64 v.off)
 c1:w.cell? ⟨g,o+1,none⟩=some (.int .i64 v.len)
theorem mo:(prog.info? 67).map (λi=>(i.zero,i.size,i.bytes))=some (some (.agg #[hA 0,hA 0]),2,16):=by kernel_rfl
theorem GJ(n:Nat)(w)(ad:n<=1099511627776):
  (Instr.makeSlice 31 (hA n) (hA n)).run prog w=.ok (hz w.heap.size n n) (w.alloc (.cells (madeCells #[hA 0,hA 0] (n*2)) 67)):=by
 obtain⟨i,hi,b4,b3,b0⟩:=info_parts mo;have:=run_make w 31 67 i _ underlying31 hi b4 .i64 .i64 n n xaa xaa (hN b0) xaa;rw[b3,Int.toNat_natCast]at this;exact this
structure PA(w:World)(g n:Nat)(vs:List Spn):Prop where
 len:vs.length=n
 lt:g<w.heap.size
 at_:∀k,k<n->AtP w g (k*2) (vs.getD k Spn.zero)
 free:∀o,w.frozen? ⟨g,o,none⟩=false
theorem PA.made(w:World)(n):PA (w.alloc (.cells (madeCells #[hA 0,hA 0] (n*2)) 67)) w.heap.size n (List.replicate n Spn.zero) where
 len:=by simp
 lt:=by simp
 at_:=λk O=>by
  have e:(List.replicate n Spn.zero).getD k Spn.zero=Spn.zero:=by simp[List.getD_eq_getElem?_getD,O]
  rw[e]
  have ah:∀j,j<2->(w.alloc (.cells (madeCells #[.int _ 0,.int _ 0] _) 67)).cell? _=some (Spn.zero.cells.getD j (.bool false)):=λj hj=>by
   rw[yav]
   have aG:k*2+j<n*2:=xaa
   simp only[madeCells]
   rw[Array.getElem?_map,Array.getElem?_range,hD aG]
   have am:(k*2+j)%2=j:=xaa
   simp[am]
   rcases (by omega:j=0\/j=1) with rfl|rfl<;>rfl
  exact⟨ah 0 xaa,ah 1 xaa⟩
 free:=λo=>by simp
abbrev oh(w:World)(g o:Nat)(v:Spn):World:=
 ((w.setCell ⟨g,o,none⟩ (.int .i64 v.off)).setCell ⟨g,o+1,none⟩ (.int .i64 v.len))
theorem DM(w g o aq b v)(h:g≠aq\/b<o\/o+2<=b):(oh w g o v).cell? ⟨aq,b,none⟩=w.cell? ⟨aq,b,none⟩:=by
 unfold oh;rw[eQ _ _ _ _ _ _ xaa,eQ _ _ _ _ _ _ xaa]
theorem GK(w g o u v)(h:AtP w g o u):AtP (oh w g o v) g o v:=by
 unfold oh;refine⟨?_,?_⟩
 ·rw[eQ _ _ _ _ _ _ xaa];exact fy _ _ _ _ _ (h.c0)
 exact fy _ _ _ _ _ (by rw[eQ _ _ _ _ _ _ xaa];exact h.c1)
theorem bU.qcp(h:Zp:=by
 exact((k _ _ _).trans (k _ _ _))):Zp:=h
open bU in
theorem tL(w g o v):Kept g (g+1) w (oh w g o v):=by
 unfold oh;exact qco
theorem AtP.keep{o v}(a:AtP w g o v)(aJ:g<w.heap.size)(k:Kept l h w B)(aK:g<l\/h<=g\/h<=l):AtP B g o v:=by
 have e:∀b,_:=λb=>k.cell (p:=⟨g,b,none⟩) aJ (by grind);exact⟨hL e a.c0,hL e a.c1⟩
theorem PA.keep{n vs}(f:PA w g n vs)(k:Kept l h w B)(aK:g<l\/h<=g\/h<=l):PA B g n vs:=
 ⟨f.len,yak f.lt k.size,λi hi=>(f.at_ i hi).keep f.lt k aK,λo=>by rw[k.frozen f.lt (by show ¬(l<=g/\g<h);omega)];exact f.free o⟩
theorem PA.step{n vs}(f:PA w g n vs)(k)(O:k<n)(v):PA (oh w g (k*2) v) g n (vs.set k v) where
 len:=by rw[List.length_set];exact f.len
 lt:=yak f.lt (tL w g (k*2) v).size
 at_:=λi hi=>by
  rw[yai,List.getElem?_set]
  by_cases e:k=i
  ·subst e
   rw[hD rfl,hD (hL f.len O)]
   exact GK w g _ _ v (f.at_ k O)
  ·rw[hC e,<-yai]
   have a:=f.at_ i hi
   have o:∀b,i*2<=b->b<i*2+2->_:=λb F N=>DM w g (k*2) g b v (by right;omega)
   exact⟨by rw[o _ xaa xaa];exact a.c0,by rw[o _ xaa xaa];exact a.c1⟩
 free:=λo=>by simp[oh,f.free o]
structure PS(w:World)(lo hi:Nat)(a:Option Addr)(n:Nat)(vs:List Spn):Prop where
 len:vs.length=n
 at_:n=0\/∃g off,a=some ⟨g,off,none⟩/\lo<=g/\g<hi/\g<w.heap.size/\∀k,k<n->AtP w g (off+k*2) (vs.getD k Spn.zero)
theorem PS.keep{a n vs}(f:PS w lo hi a n vs)(k:Kept l h w B)(aK:hi<=l\/h<=lo\/h<=l):PS B lo hi a n vs:=
 ⟨f.len,by
  rcases f.at_ with al|⟨g,off,e,F,N,h3,a6⟩
  ·exact .inl al
  ·exact .inr ⟨g,_,e,F,N,yak h3 k.size,λj hj=>(a6 j hj).keep h3 k xaa⟩⟩
theorem PS.mono{a n vs}(f:PS w lo hi a n vs)(F:lo'<=lo)(N:hi<=hi'):PS w lo' hi' a n vs:=
 ⟨f.len,by
  rcases f.at_ with al|⟨g,off,e,aC,aL,b1,ba⟩<;>grind⟩
theorem PA.ss{n vs}(f:PA w g n vs):PS w 0 w.heap.size (some ⟨g,0,none⟩) n vs:=
 ⟨f.len,.inr ⟨g,0,rfl,yae,f.lt,f.lt,λk O=>by rw[Nat.zero_add];exact f.at_ k O⟩⟩
abbrev re(a1:Option Addr)(n1 c1:Nat)(a2:Option Addr)(n2 c2:Nat)(a3:Option Addr)(n3 c3:Nat)(pk:Int):Value:=.agg #[.slice a1 n1 c1,.slice a2 n2 c2,.slice a3 n3 c3,.int .i64 pk]
abbrev mH(a1:Option Addr)(n1 c1:Nat)(a2:Option Addr)(n2 c2:Nat)(a3:Option Addr)(n3 c3:Nat)(pk:Int):Obj:=.cells #[.slice a1 n1 c1,.slice a2 n2 c2,.slice a3 n3 c3,.int .i64 pk] 33
abbrev tO:Obj:=.cells #[.slice none 0 0,.slice none 0 0,.slice none 0 0,.int .i64 0] 33
structure CS(w:World)(a1:Option Addr)(n1:Nat)(a2:Option Addr)(n2:Nat)(a3:Option Addr)(n3:Nat)(ins:List Int)(ss:List Ste)(os:List Spn):Prop where
 i:IS w 0 w.heap.size a1 n1 ins
 s:TS w 0 w.heap.size a2 n2 ss
 o:PS w 0 w.heap.size a3 n3 os
theorem CS.keep{a1 U a3 Z n2 ab ins ss bG}(f:CS w a1 Z U n2 a3 ab ins ss bG)(k:Kept 0 0 w B):CS B a1 Z U n2 a3 ab ins ss bG:=
 ⟨(f.i.keep k yaa).mono yad k.size,(f.s.keep k yaa).mono yad k.size,(f.o.keep k yaa).mono yad k.size⟩
abbrev setC4(w:World)(g:Nat)(x y z u:Value):World:=(((w.setCell ⟨g,0,none⟩ x).setCell ⟨g,1,none⟩ y).setCell ⟨g,2,none⟩ z).setCell ⟨g,3,none⟩ u
theorem bV.qcp(h:Zp:=by
 exact((k _ _ _).trans (k _ _ _)).trans (k _ _ _) |>.trans (k _ _ _)):Zp:=h
open bV in
theorem oV(w g x y z u):Kept g (g+1) w (setC4 w g x y z u):=by
 exact qco
structure C0(W:World)(p:Nat)(b0 b1 b2 b3:Value):Prop where
 sz:p<W.heap.size
 q0:W.cell? ⟨p,0,none⟩=some b0
 q1:W.cell? ⟨p,1,none⟩=some b1
 q2:W.cell? ⟨p,2,none⟩=some b2
 q3:W.cell? ⟨p,3,none⟩=some b3
theorem C0.keepR{W}(t:C0 W p bE R aS aa)(k:Kept l h W I)(aK:p<l\/h<=p\/h<=l):C0 I p bE R aS aa:=by
 have e:∀o,_:=λo=>k.cell (p:=⟨p,o,none⟩) t.sz (by grind);exact⟨yak t.sz k.size,hL e t.q0,hL e t.q1,hL e t.q2,hL e t.q3⟩
theorem C0.keep{W}(t:C0 W p bE R aS aa)(k:Kept 0 0 W I):C0 I p bE R aS aa:=t.keepR k yaa
theorem jZ(w:World)(bE R aS aa):C0 (w.alloc (.cells #[bE,R,aS,aa] 33)) w.heap.size bE R aS aa:=by
 refine⟨?_,?_,?_,?_,?_⟩;all_goals first|(go_simp;done)|(simp;done)
end
section
variable{p:Nat->Bool}{vs:List Vl}{ins outs ps:List Int}{s:Ste}{n i j:Nat}
def qu(v:Vl)(i:Nat):Bool:=(List.range (cnt v.op)).any λk=>fld v k==(i:Int)
def ie(vs:List Vl)(i:Nat):Nat->Int
 |0=>-1
 |m+1=>if qu (vs.getD (i+1+m) hF) i=true then ((i+1+m:Nat):Int)else ie vs i m
def iA(vs:List Vl)(outs:List Int)(i:Nat):Int:=if isO outs i=true then (vs.length:Int)else ie vs i (vs.length-(i+1))
def nF(vs:List Vl)(outs:List Int)(ps:List Int)(i:Nat)(n a:Int)(j:Nat):Bool:=decide ((i:Int)<=iA vs outs j)&&(decide (ps.getD j 0<a+n)&&decide (a<ps.getD j 0+(vs.getD j hF).len))
def jA(vs:List Vl)(outs:List Int)(ps:List Int)(i:Nat)(n a:Int):Bool:=(List.range i).all λj=>!nF vs outs ps i n a j
def rg(vs:List Vl)(outs:List Int)(ps:List Int)(i:Nat):Int:=(((List.range 60000).find? λ(a:Nat)=>jA vs outs ps i (vs.getD i hF).len (a:Int)).getD 0:Nat)
def eW(vs:List Vl)(outs:List Int):Nat->List Int
 |0=>[]
 |i+1=>eW vs outs i++[rg vs outs (eW vs outs i) i]
theorem qw(vs outs):∀i,(eW vs outs i).length=i
 |0=>rfl
 |i+1=>by rw[eW,yal,qw _ _ i];rfl
theorem xo(vs outs)(h:j<i):(eW vs outs (i+1)).getD j 0=(eW vs outs i).getD j 0:=by
 grind[eW,qw]
theorem xq(vs outs i):(eW vs outs (i+1)).getD i 0=rg vs outs (eW vs outs i) i:=by
 simp_all[eW,qw]
theorem Bb:∀{J a:Nat},a<J->p a=true->(∀b,b<a->p b=false)->(List.range J).find? p=some a:=λ{J a} F N h3=>by
 simp_all
theorem zm{a:Nat}(h:jA vs outs ps i (vs.getD i hF).len (a:Int)=true)(am:∀b:Nat,b<a->jA vs outs ps i (vs.getD i hF).len (b:Int)=false)(ar:a<60000):rg vs outs ps i=(a:Int):=by
 unfold rg;rw[Bb ar h am];rfl
def jW(vs:List Vl):Nat->Int
 |0=>0
 |i+1=>jW vs i+(vs.getD i hF).len
theorem gY(af:∀k,k<n->1<=(vs.getD k hF).len)(eL:i<=j)(hj:j<=n):jW vs i<=jW vs j:=by
 induction j<;>grind[jW]
theorem jm(vs):∀i,i<=vs.length->jW vs i=eU (vs.take i)
 |0,_=>by simp[jW,eU]
 |i+1,h=>by rw[jW,jm _ i xaa,me xaa]
theorem qx:∀{J:Nat},p J=true->∃a,a<=J/\p a=true/\∀b,b<a->p b=false:=λ{J} h=>by
 induction J using Nat.strongRecOn<;>grind
theorem kZ(af:∀k,k<n->1<=(vs.getD k hF).len)(au:jW vs n<=50000):∀i,i<=n->∀j,j<i->0<=(eW vs outs i).getD j 0/\(eW vs outs i).getD j 0+(vs.getD j hF).len<=jW vs (j+1):=λi=>by
 induction i with
 |zero=>omega
 |succ i G=>
  intro hi j hj
  by_cases e:j<i
  ·rw[xo _ _ e];grind
  ·obtain rfl:j=i:=xaa
   have f:=G xaa
   have e1:0<=jW vs j:=by have:=gY af (i:=0) (j:=j) xaa xaa;simpa[jW] using this
   have bA:=gY af (i:=j) (j:=n) xaa xaa
   obtain⟨S,aW⟩:=Int.eq_ofNat_of_zero_le e1
   have g:jA vs outs (eW vs outs j) j (vs.getD j hF).len S=true:=by
    unfold jA;rw[List.all_eq_true];intro q ap;have u:=List.mem_range.1 ap;have F:=f q u;have N:=gY af (i:=q+1) (j:=j) xaa xaa;unfold nF;rw[yay (show ¬(S<(eW _ _ j).getD q 0+(vs.getD q _).len) by omega)]
    simp
   obtain⟨a,v,cc,h⟩:=qx (p:=λa=>jA _ _ _ j _ a) g
   rw[xq,zm cc h xaa,jW]
   omega
theorem tP(af:∀k,k<n->1<=(vs.getD k hF).len)(au:jW vs n<=50000)(hi:i<n):∃a:Nat,rg vs outs (eW vs outs i) i=a/\(a:Int)<=jW vs i/\jA vs outs (eW vs outs i) i (vs.getD i hF).len (a:Int)=true/\∀b:Nat,b<a->jA vs outs (eW vs outs i) i (vs.getD i hF).len (b:Int)=false:=by
 have f:=kZ (outs:=outs) af au i xaa;have e1:0<=jW vs i:=by have:=gY af (i:=0) (j:=i) xaa xaa;simpa[jW] using this
 have bA:=gY af (i:=i) (j:=n) xaa xaa;obtain⟨S,aW⟩:=Int.eq_ofNat_of_zero_le e1
 have g:jA vs outs (eW vs outs i) i (vs.getD i hF).len S=true:=by
  unfold jA;rw[List.all_eq_true];intro q ap;have u:=List.mem_range.1 ap;have F:=f q u;have N:=gY af (i:=q+1) (j:=i) xaa xaa;unfold nF;rw[yay (show ¬(S<(eW _ _ i).getD q 0+(vs.getD q _).len) by omega)];simp
 obtain⟨a,v,cc,h⟩:=qx (p:=λa=>jA _ _ _ i _ a) g;exact⟨a,zm cc h xaa,by omega,cc,h⟩
theorem GL{n a b}(hj:j<i)(f:nF vs outs ps i n a j=true)(hb:jA vs outs ps i n b=true)(e:a<=b):ps.getD j 0+(vs.getD j hF).len<=b:=by
 unfold jA at hb;have h:=List.all_eq_true.1 hb j (List.mem_range.2 hj);grind[nF]
def qy(vs:List Vl)(ps:List Int)(i:Nat):Ste:=
 ⟨(vs.getD i hF).op,(vs.getD i hF).len,
  if 0<cnt (vs.getD i hF).op then (vs.getD (vs.getD i hF).a.toNat hF).len else 0,
  ps.getD i 0,
  if 0<cnt (vs.getD i hF).op then ps.getD (vs.getD i hF).a.toNat 0 else (vs.getD i hF).a,
  if 1<cnt (vs.getD i hF).op then ps.getD (vs.getD i hF).b.toNat 0 else (vs.getD i hF).b,
  if 2<cnt (vs.getD i hF).op then ps.getD (vs.getD i hF).c.toNat 0 else (vs.getD i hF).c,
  if (vs.getD i hF).op=1 then (vs.getD i hF).k else 0⟩
def iu(vs:List Vl)(ps:List Int)(k:Nat):List Ste:=(List.range k).map (qy vs ps)
theorem zn(vs ps k):iu vs ps (k+1)=iu vs ps k++[qy vs ps k]:=by
 unfold iu;rw[List.range_succ,List.map_append];rfl
theorem kK(vs ps k):(iu vs ps k).length=k:=by simp[iu]
def fg(vs:List Vl)(ps:List Int):Nat->Int
 |0=>0
 |k+1=>if fg vs ps k<ps.getD k 0+(vs.getD k hF).len then ps.getD k 0+(vs.getD k hF).len else fg vs ps k
def pH(vs:List Vl)(ps:List Int)(o:Int):Spn:=⟨ps.getD o.toNat 0,(vs.getD o.toNat hF).len⟩
def j9(s:Ste):Vl:=⟨s.op,s.len,s.a,s.b,s.c,s.k⟩
def fh(s:Ste):List Spn:=[⟨s.a,s.n⟩,⟨s.b,s.len⟩,⟨s.c,s.len⟩].take (cnt s.op)
def iG(ins:List Int)(s:Ste):Bool:=
 ((lenB s.len&&fW (j9 s))&&!(decide (cnt s.op=0)&&s.n !=0))&&
   (if s.op=0 then fR s.a ins.length&&ins.getD s.a.toNat 0==s.len else eV s.op s.len s.c ([s.n,s.len,s.len].take (cnt s.op)))
def iY(ss:List Ste)(n:Nat)(c:Int):Bool:=(ss.take n).any λs=>decide (s.dst<=c/\c<s.dst+s.len)
def mI(off len peak:Int):Bool:=decide (0<=off/\off<=peak-len)
def mJ(ss:List Ste)(n:Nat)(peak off len:Int):Bool:=mI off len peak&&(List.range len.toNat).all λj=>iY ss n (off+(j:Nat))
def MV(s:Ste)(p:Spn):Bool:=decide (s.dst<p.off+p.len/\p.off<s.dst+s.len)
def mq(ss:List Ste)(i:Nat)(peak:Int)(s:Ste)(p:Spn):Bool:=mJ ss i peak p.off p.len&&!MV s p
def mK(ins:List Int)(ss:List Ste)(peak:Int)(i:Nat):Bool:=
 iG ins (ss.getD i Ste.zero)&&(mI (ss.getD i Ste.zero).dst (ss.getD i Ste.zero).len peak&&(fh (ss.getD i Ste.zero)).all (mq ss i peak (ss.getD i Ste.zero)))
def mL(ins:List Int)(n2 n3:Nat)(peak:Int):Bool:=(((decide (ins.length<=20)&&decide (n2<=2000))&&decide (n3<=50))&&ins.all lenB)&&decide (0<=peak/\peak<=50000)
def tQ(ss:List Ste)(peak:Int)(p:Spn):Bool:=lenB p.len&&mJ ss ss.length peak p.off p.len
def oq(ins:List Int)(ss:List Ste)(os:List Spn)(peak:Int):Bool:=
 (mL ins ss.length os.length peak&&(List.range ss.length).all (mK ins ss peak))&&os.all (tQ ss peak)
theorem mM(s):(fh s).length=cnt s.op:=by
 have:=fI s.op;simp[fh];omega
theorem ot(h:iG ins s=true):1<=s.len/\s.len<=1000:=by
 grind[iG,lenB]
theorem tR(h:iG ins s=true)(al:s.op≠0):eV s.op s.len s.c ([s.n,s.len,s.len].take (cnt s.op))=true:=by
 grind[iG]
theorem GM(h:iG ins s=true)(ah:0<cnt s.op):1<=s.n/\s.n<=1000:=by
 have al:s.op≠0:=λe=>by rw[e]at ah;exact absurd ah xab
 have af:=ot h;have au:=tR h al;grind[eV,cnt,lenB]
theorem tS(h:iG ins s=true){p}(aM:p∈fh s):1<=p.len/\p.len<=1000:=by
 have af:=ot h;by_cases ah:0<cnt s.op
 ·have ad:=GM h ah;have:=List.mem_of_mem_take aM;grind
 grind[fh]
theorem Bd(ss c):iY ss 0 c=false:=by simp[iY]
theorem Be{ss}(h:n<ss.length)(c):iY ss (n+1) c=(iY ss n c||decide ((ss.getD n Ste.zero).dst<=c/\c<(ss.getD n Ste.zero).dst+(ss.getD n Ste.zero).len)):=by
 unfold iY;rw[yau h,List.any_append];simp_all
end
section
attribute[local go_sem] eF eE eD
variable{I bj aF aA:World}{i p C S j J V k m g cap z:Nat}{bE R aS bz aa u v:Value}{ps Q:List Int}{s:Ste}{bA x:Int}{ss:List Ste}{bG:List Spn}{o:Obj}
theorem rh{n e off len}(h:mJ ss n e off len=true):0<=off/\off<=e-len:=by
 unfold mJ at h;simp only[Bool.and_eq_true]at h;exact of_decide_eq_true h.1
theorem AtT.keepC{w B S v}(a:AtT w g 0 v)(aJ:g<w.heap.size)(k:Chg S w B)(aK:¬S g):AtT B g 0 v:=by
 have e:∀o,_:=λo=>k.cell (p:=⟨g,o,none⟩) aJ aK;obtain⟨c0,c1,c2,c3,c4,c5,cp,cr⟩:=a;exact⟨by grind,by grind,by grind,by grind,by grind,by grind,by grind,by grind⟩
theorem lR(w:World)(v):AtT (w.alloc v.box) w.heap.size 0 v:=by
 constructor;all_goals first|(go_simp;done)|(simp;done)
theorem DN(v)(i q:Nat):((List.range (q+1)).any λk=>fld v k==(i:Int))=(((List.range q).any λk=>fld v k==(i:Int))||(fld v q==(i:Int))):=by
 grind
theorem zo(vs i m):ie vs i (m+1)=if qu (vs.getD (i+1+m) hF) i=true then ((i+1+m:Nat):Int)else ie vs i m:=rfl
theorem aR.qbt(h:Zp:=by
 clear f bV cf b1 cB aO ho cq cK bq;go_enter func81,ntmps81;go_wp2_with fail;generalize w.alloc _=aA at av HF HK⊢;go_loopw [5,6] (λx y W=>∃m:Nat,i+1+m<=n2/\x=hA (ie vs i m)/\y=hA ((i:Int)+1+m)/\E (Kept 0 0 aA W)) (λ_ y _=>(n2:Int).toNat-(intOf y).toNat)
 case atStart=>exact⟨0,by omega,rfl,by go_num,Kept.refl _ _ _⟩
 case round=>
  obtain⟨m,am,rfl,rfl,aI⟩:=hrel;obtain⟨_,aY,aC,aL⟩:=av.o.keep aI.o;by_cases aG:i+1+m<n2
  ·have hops:=mY (bH.o _ aG);have a5:E _:=Cc _ hops.1 hops.2
   have ec:E (∀I,Kept 0 0 _ I->∃g off,aS=some _/\g<I.heap.size/\At _ g _ _):=λI bJ=>by
    obtain⟨g,off,e,aQ,_,_,bk⟩:=(HF.o.keep bJ).v.at_idx aG
    exact⟨g,off,e,aQ,bk⟩
   have ao:E _:=zo vs i m;unfold qu at ao;generalize cV:vs.getD _ _=v at a5 ec ao hops;have cC:=fI v.op;clear cV;obtain⟨j,hj⟩:∃j:Nat,j=i+1+m:=⟨_,rfl⟩
   have aw:(i:Int)+1+m=j:=xaa;rw[aw];rw[<-hj]at ec ao aG;generalize bN:ie _ i m=y at ao;have aD:E (j=i+1+m/\(i:Int)+1+m=j):=⟨hj,aw⟩
   clear bN hj aw am hops;go_wp2_with fail;go_loopw [5,7] (λx z W=>∃q:Nat,q<=cnt v.op/\z=hA q/\x=hA (if ((List.range q).any λk=>fld v k==(i:Int))=true then (j:Int)else y)/\E (Kept 0 0 aA W)) (λ_ z _=>cnt v.op-(intOf z).toNat)
   case atStart=>exact⟨0,yae,rfl,by simp,aI⟩
   case round=>
    obtain⟨q,ap,rfl,rfl,P⟩:=hrel;clear aI aY aC aL;obtain⟨_,aY,aC,aL⟩:=av.o.keep P.o;obtain⟨g,off,rfl,aJ,ba,aP,y2,y3,y4,ck⟩:=ec.o _ P.o;by_cases ak:q<cnt v.op
    ·have cJ:E _:=λW=>mj W v q xaa;have N:E _:=DN v i q;generalize au:((List.range q).any _)=Eaa at N⊢;obtain⟨bz,an⟩:∃bz,bz=(if Eaa=true then (j:Int)else y):=⟨_,rfl⟩
     rw[<-an];have ar:E _:=an;clear au an;go_wp2_with (first|(go_at_call 51;refine yaj (a5.o _) ?_;rintro e bj ⟨rfl,rfl⟩)|fail);refine yaj (cJ.o _) ?_;rintro e bj ⟨rfl,aM⟩;have R2:E _:=P.o.trans aM;cases t:(fld v q==(i:Int))
     ·have F:¬fld v q=i:=by simpa using t
      rw[t,Bool.or_false]at N;generalize fld v q=z at F;clear t aM;go_wp2_with fail;go_roundw;exact⟨q+1,by omega,by go_num,by rw[N.o,ar.o],R2⟩;simp[intOf];omega
     have F:fld v q=i:=by simpa using t
     rw[t,Bool.or_true]at N;rw[F];clear t aM F;go_wp2_with fail;go_roundw;exact⟨q+1,by omega,by go_num,hO N.o,R2⟩;simp[intOf];omega
    obtain rfl:q=cnt v.op:=xaa;have H:E _:=ao.o;generalize (if ((List.range _).any _)=true then (j:Int)else y)=z at H⊢;go_wp2_with (first|(go_at_call 51;refine yaj (a5.o _) ?_;rintro e bj ⟨rfl,rfl⟩)|fail);go_roundw
    case rel=>exact⟨m+1,hJ aD.o,by rw[H.o],by have:=aD.o;congr 1;omega,P⟩
    case measure=>have:=aD.o;simp[intOf];omega
  have aZ:i+1+m=n2:=xaa
  have H:E (iA vs outs i=if isO outs i=true then (n2:Int)else ie vs i m):=by
   show _=_;unfold iA;rw[HL.o,show n2-(i+1)=m by omega]
  generalize ie _ i m=z at H;have bm:E _:=Gq _ R aS _ Z c1 n2 c2 _ c3 i _ _ _ (HF.o.keep aI.o).o xaa;go_wp2_with fail;refine yaj bm.o ?_;rintro e bj ⟨rfl,aM⟩;obtain⟨_,br,ay,a0⟩:=(av.o.keep aI.o).keep aM;have R2:E _:=(HK.o.trans aI.o).trans aM;clear bm aM aY aC aL;cases t:isO outs i
  ·rw[t,hC xac]at H;go_wp2_with fail;go_ret;exact⟨hO H.o,R2.o⟩
  rw[t,hD rfl]at H;go_wp2_with fail;go_ret;exact⟨hO H.o,R2.o⟩):Zp:=h
open aR in
theorem DO(w R aS aa Z c1 n2 c2 ab c3 i ins vs outs)(f:GS w R Z aS n2 aa ab ins vs outs)(bV:okG ins vs outs=true)(hi:i<n2):
  Calls prog 81 #[eZ R Z c1 aS n2 c2 aa ab c3,hA (i:Nat)] w λe B=>e=.returned (hA (iA vs outs i))/\Kept 0 0 w B:=by
 obtain⟨⟨cf,b1,cB⟩,_,aO,ho,_⟩:=gU bV;have cq:=f.v.len;have cK:=f.o.len;have be:n2<=2000:=xaa;have cP:ab<=50:=xaa;have bH:E (∀j,j<n2->_):=λj hj=>aO j xaa;have HL:E _:=cq;exact qbs
structure P2(W:World)(B:Nat)(u v:Value)(k m:Nat)(ps ls:List Int):Prop where
 pu:W.ownsRow B 3 1 u k (ps.map (Value.int .i64))
 pv:W.ownsRow B 3 1 v m (ls.map (Value.int .i64))
 ne:∀g,u.ownBlock=some g->v.ownBlock≠some g
theorem P2.keep{W}(f:P2 W J u v k m ps Q)(q:Kept 0 0 W I):P2 I J u v k m ps Q:=
 ⟨eO f.pu q,eO f.pv q,f.ne⟩
theorem P2.start(W J):P2 W J (.slice none 0 0) (.slice none 0 0) 0 0 [] []:=
 ⟨yaw _ _ _ _,yaw _ _ _ _,λg h=>by simp[Value.ownBlock]at h⟩
theorem Ci{W:World}(f:W.ownsRow J 3 1 u k (ps.map (Value.int .i64)))(hj:j<k):∃g cap,u=hz g k cap/\J<=g/\g<W.heap.size/\W.cell? ⟨g,j,none⟩=some (hA (ps.getD j 0)):=by
 obtain⟨g,cap,rfl,F,N⟩:=f.form xaa;have af:ps.length=k:=by have:=f.1;rw[List.length_map]at this;omega
 rcases (wN f af).at_ with z|⟨aq,off,e,aQ,a8,bi,bk⟩<;>grind
theorem P2.putU{W}(f:P2 W J u v k m ps Q)(ho:I.ownsRow J 3 1 (hz g (k+1) cap) (k+1) (ps.map (Value.int .i64)++[hA x]))(aJ:(W.alloc o).grownBy I u.ownBlock)(ar:u.ownBlock=some g\/g=W.heap.size+1):P2 I J (hz g (k+1) cap) v (k+1) m (ps++[x]) Q:=by
 refine⟨by grind,?_,?_⟩
 ·refine(f.pv.alloc o).kept aJ ?_;cases aO:v.ownBlock with
  |none=>grind
  |some b=>exact .inr (λc=>f.ne b c.symm aO)
 exact xgh
theorem P2.putV{W}(f:P2 W J u v k m ps Q)(ho:I.ownsRow J 3 1 (hz g (m+1) cap) (m+1) (Q.map (Value.int .i64)++[hA x]))(aJ:(W.alloc o).grownBy I v.ownBlock)(ar:v.ownBlock=some g\/g=W.heap.size+1):P2 I J u (hz g (m+1) cap) k (m+1) ps (Q++[x]):=by
 refine⟨?_,by grind,?_⟩
 ·refine(f.pu.alloc o).kept aJ ?_;cases aO:u.ownBlock with
  |none=>grind
  |some b=>exact .inr (λc=>f.ne b aO c.symm)
 exact xgi
def zp(vs:List Vl)(outs:List Int)(k:Nat):List Int:=(List.range k).map (iA vs outs)
theorem Kg(vs outs)(h:j<k):(zp vs outs k).getD j 0=iA vs outs j:=by
 simp_all[zp]
theorem DP(vs outs k):zp vs outs (k+1)=zp vs outs k++[iA vs outs k]:=by
 simp_all[zp,List.range_succ]
theorem tT(vs i):∀m,-1<=ie vs i m/\ie vs i m<=(i:Int)+m
 |0=>by rw[ie];omega
 |m+1=>by
  have:=tT vs i m
  rw[ie]
  omega
theorem DQ(vs outs)(h:i<vs.length):-1<=iA vs outs i/\iA vs outs i<=vs.length:=by
 have:=tT vs i (vs.length-(i+1));unfold iA;omega
def zt:Value->Nat
 |.bool true=>1
 |_=>0
theorem DR{vs outs n a}(h:∀q,q<i->nF vs outs ps i n a q=false):jA vs outs ps i n a=true:=by
 simp_all[jA]
theorem aS.qbt(h:Zp:=by
 clear f bV cf b1 cB aO cq cG bq;go_enter func49,ntmps49;go_wp2_with fail;generalize w.alloc _=aA at av HF HK⊢;go_loopw [3,4,5] (λY v' x W=>∃(k:Nat) (u v:Value),u=Y/\v=v'/\k<=n2/\x=hA k/\E (P2 W aA.heap.size u v k k (eW vs outs k) (zp vs outs k))/\E (Kept 0 0 aA W)) (λ_ _ x _=>n2-(intOf x).toNat)
 case atStart=>exact⟨0,_,_,rfl,rfl,yae,rfl,P2.start _ _,Kept.refl _ _ _⟩
 case round=>
  obtain⟨i,u,v,rfl,rfl,hi,rfl,hP,aI⟩:=hrel;obtain⟨_,aY,aC,aL⟩:=av.o.keep aI.o;by_cases aG:i<n2
  ·obtain⟨p,aM,el,U,bL⟩:=tP (outs:=outs) (λk O=>(bH.o k O).1) ao.o aG;have cW:E _:=kZ (outs:=outs) (λk O=>(bH.o k O).1) ao.o i xaa;have bS:E (∀j,j<=n2->_):=λj hj=>Int.le_trans (gY (λk O=>(bH.o k O).1) hj yad) ao.o;have a9:p<=50000:=by have:=bS.o i xaa;omega
   have ak:E (eW vs outs (i+1)=eW vs outs i++[(p:Int)]):=by show _=_;rw[eW,aM]
   obtain⟨aV,bC⟩:∃aV,aV=(vs.getD i hF).len:=⟨_,rfl⟩
   have a0:=bH.o i aG;rw[<-bC]at U bL a0;have aT:E _:=U;have al:E _:=bL;obtain⟨g,off,rfl,aJ,_,_,ba,aP,y2,y3,y4,ck⟩:=(HF.o.keep aI.o).v.at_idx aG;rw[<-bC]at aP;clear aM el U bL bC;go_wp2_with fail;clear ba aP y2 y3 y4 ck aJ aY aC aL;go_loopw [7,8] (λx y W=>∃(a:Nat) (b:Bool),x=hA a/\y=.bool b/\a<=p/\E (b=false->jA vs outs (eW vs outs i) i aV (a:Int)=true)/\E (P2 W aA.heap.size u v i i (eW vs outs i) (zp vs outs i))/\E (Kept 0 0 aA W)) (λx y _=>2*(60000-(intOf x).toNat)+zt y)
   case atStart=>exact⟨0,_,rfl,rfl,yae,(λh=>by cases h),hP,aI⟩
   case round=>
    obtain⟨a,b,rfl,rfl,ar,r,ad,P⟩:=hrel;clear hP aI;cases b
    ·obtain rfl:a=p:=by
      rcases Nat.lt_or_ge a p with c|c
      ·have:=al.o a c;rw[r.o rfl]at this;cases this
      omega
     clear r al;have bX:=P.o.size;go_wp2_with (first|(at_builtin;refine wpList_append_lies _ rfl _ _ _ rfl _ 3 _ _ 1 8 underlying23 bI cC bh bP rfl xab _ _ _ rfl (ad.o.pu.alloc _) _ 1 1 [hA a] rfl rfl ?c1 ?c2 xab ?c3 ?c4 ?c5 _ rfl ?_)|fail)
     case c1=>exact cell_one_new _ _ _
     case c2=>intro u aB;simp at aB;subst aB;rfl
     case c3=>unfold maxLen;omega
     case c4=>omega
     case c5=>simp;omega
     intro g9 cap9 bj bF aW bT _;have R1:E _:=P2.putU ad.o bF aW bT;have R2:E _:=gm aW (λi hi=>(eH ad.o.pu hi).1) (P.o.trans (ez 0 0 _ _)) yad;rw[<-ak.o]at R1;clear bF aW bT ad P bX ak;obtain⟨_,aY,aC,aL⟩:=av.o.keep R2.o;have aj:E _:=DO _ _ _ _ _ c1 _ c2 _ c3 i _ _ _ (HF.o.keep R2.o) cD.o aG;go_wp2_with fail;refine yaj aj.o ?_;rintro e am ⟨rfl,ai⟩;have aD:E _:=R1.o.keep ai;have aK:E _:=R2.o.trans ai;have bX:=aK.o.size;have cK:E _:=DP vs outs i;clear R1 R2 ai aj aY aC aL;generalize iA _ _ i=aZ at cK;go_wp2_with (first|(at_builtin;refine wpList_append_lies _ rfl _ _ _ rfl _ 3 _ _ 1 8 underlying23 bI cC bh bP rfl xab _ _ _ rfl (aD.o.pv.alloc _) _ 1 1 [hA aZ] rfl rfl ?c1 ?c2 xab ?c3 ?c4 ?c5 _ rfl ?_)|fail)
     case c1=>exact cell_one_new _ _ _
     case c2=>intro u aB;simp at aB;subst aB;rfl
     case c3=>unfold maxLen;omega
     case c4=>omega
     case c5=>simp;omega
     intro a6 a5 K aH ae ay _;have R1:E _:=P2.putV aD.o aH ae ay;have R2:E _:=gm ae (λi hi=>(eH aD.o.pv hi).1) (aK.o.trans (ez 0 0 _ _)) yad;rw[<-cK.o]at R1;clear aH ae ay aD aK bX cK;go_wp2_with fail;go_roundw;exact⟨i+1,_,_,rfl,rfl,by omega,by go_num,R1,R2⟩;simp[intOf];omega
    go_wp2_with fail;go_loopw [7,8,9] (λx y z W=>∃(ag:Nat) (G:Bool) (j:Nat),x=hA ag/\y=.bool G/\z=hA j/\j<=i/\ag<=p/\E (G=false->ag=a/\∀q,q<j->nF vs outs (eW vs outs i) i aV (a:Int) q=false)/\E (G=true->a<ag)/\E (P2 W aA.heap.size u v i i (eW vs outs i) (zp vs outs i))/\E (Kept 0 0 aA W)) (λ_ _ z _=>i-(intOf z).toNat)
    case atStart=>exact⟨a,_,0,rfl,rfl,rfl,yae,ar,λ_=>⟨rfl,λq ap=>by omega⟩,(λh=>by cases h),ad,P⟩
    case round=>
     obtain⟨ag,G,j,rfl,rfl,rfl,hj,n,a2,bd,N,F⟩:=hrel;clear ad P r;by_cases aw:j<i
     ·obtain⟨_,aY,aC,aL⟩:=av.o.keep F.o;obtain⟨aq,aQ,aN,aJ,_,_,ba,aP,y2,y3,y4,ck⟩:=(HF.o.keep F.o).v.at_idx (i:=j) xaa;cases aN;obtain⟨a7,c8,rfl,_,a8,fP⟩:=Ci N.o.pu aw;obtain⟨bJ,cv,rfl,_,b3,ax⟩:=Ci N.o.pv aw;rw[Kg _ _ aw]at ax;have au:=cW.o j aw;have bn:=bS.o (j+1) xaa;have af:=bH.o j xaa;have az:=DQ _ outs (i:=j) (hN cA.o);rw[cA.o]at az;have l:E (nF _ _ _ i aV ag j=true->_):=λh=>GL aw h aT.o xaa;have aU:E (nF vs outs (eW vs outs i) i aV ag j=(decide _&&(decide _&&decide _))):=rfl
      have ah:E (nF _ _ _ i aV ag j=false->G=false->ag=a/\∀q,q<j+1->nF _ _ _ i aV a q=false):=λh hb=>by
       obtain⟨e,ap⟩:=a2.o hb
       subst e
       refine⟨rfl,λq aR=>?_⟩
       by_cases c:q<j
       ·exact ap q c
       ·obtain rfl:q=j:=xaa
        exact h
      generalize iA _ _ j=L at ax az aU;generalize (eW _ _ i).getD j 0=X at fP au aU l;generalize (vs.getD j _).len=M at aP au af aU l;by_cases aX:i<=L
      ·by_cases bb:X<ag+aV
       ·by_cases co:ag<X+M
        ·have an:=l.o (by rw[aU.o,decide_eq_true aX,decide_eq_true bb,decide_eq_true co];rfl)
         have H:E (a<(X+M).toNat):=by
          show _<_;cases G
          ·have:=(a2.o rfl).1;omega
          have:=bd.o rfl;omega
         clear aU l ah a2 bd;go_wp2_with fail;go_region
         all_goals
          go_wp2
          go_roundw;exact⟨(X+M).toNat,true,j+1,by congr 1;omega,rfl,by go_num,by omega,by omega,(λh=>by cases h),(λ_=>H.o),N.o.keep (eG _),Kept.drew F.o⟩;simp[intOf];omega
        have H:E _:=ah.o (by rw[aU.o,yay co];simp);exact xcj
       have H:E _:=ah.o (by rw[aU.o,yay bb];simp);exact xcj
      have H:E _:=ah.o (by rw[aU.o,yay aX];rfl);exact xcj
     obtain rfl:j=i:=xaa
     have H:E _:=λh=>by
      obtain⟨e,ap⟩:=a2.o h
      subst e
      exact DR ap
     have R2:E (2*(60000-ag)+zt (.bool G)<2*(60000-a)+1):=by
      show _<_;cases G
      ·have:=(a2.o rfl).1;simp[zt];omega
      have:=bd.o rfl;simp[zt];omega
     clear a2 bd;go_wp2;go_roundw
     case rel=>exact⟨_,_,rfl,rfl,n,H,N,F⟩
     case measure=>simpa[intOf,zt] using R2.o
  obtain rfl:i=n2:=xaa;obtain⟨a,cap,rfl⟩:=im hP.o.pu;have H:E _:=wN hP.o.pu (qw _ _ _);have R2:E _:=HK.o.trans aI.o;clear hP aI;go_wp2;go_ret;exact⟨a,_,rfl,H.o,R2.o⟩):Zp:=h
open aS in
theorem GN(w R aS aa Z c1 n2 c2 ab c3 ins vs outs)(f:GS w R Z aS n2 aa ab ins vs outs)(bV:okG ins vs outs=true):
  Calls prog 49 #[eZ R Z c1 aS n2 c2 aa ab c3] w λe B=>∃a cap,e=.returned (.slice a n2 cap)/\IS B 0 B.heap.size a n2 (eW vs outs n2)/\Kept 0 0 w B:=by
 obtain⟨bm,bI,cC,bh,bP⟩:=info_parts pX;obtain⟨⟨cf,b1,cB⟩,_,aO,_,cG⟩:=gU bV;have cq:=f.v.len;have be:n2<=2000:=xaa;have cD:E _:=bV;have bH:E (∀j,j<n2->_):=λj hj=>fU (aO j xaa);have ao:E (jW vs n2<=50000):=by grind[jm]
 have cA:E _:=cq;exact qbs
def lg:List Ste->List Value
 |[]=>[]
 |v::r=>v.cells++lg r
theorem xr(a b):lg (a++b)=lg a++lg b:=by
 induction a<;>grind[lg]
theorem DS(v):lg [v]=v.cells:=by simp[lg]
theorem zu:∀(a:List Ste) (k j:Nat),k<a.length->j<8->(lg a)[k*8+j]? =(a.getD k Ste.zero).cells[j]?
 |[],k,j,O,_=>by simp at O
 |x::r,0,j,_,hj=>by
  grind[lg,Ste.cells,yaq]
 |x::r,k+1,j,O,hj=>by
  have:(x::r).getD (k+1) Ste.zero=r.getD k _:=rfl
  rw[this,lg,yas (by grind[Ste.cells,yaq])]
  have e:(k+1)*8+j-x.cells.length=k*8+j:=by grind[Ste.cells,yaq]
  rw[e]
  exact zu r k j (by grind) hj
def fL:List Spn->List Value
 |[]=>[]
 |v::r=>v.cells++fL r
theorem iw(a b):fL (a++b)=fL a++fL b:=by
 induction a<;>grind[fL]
theorem vu(v):fL [v]=v.cells:=by simp[fL]
theorem fd(a):(fL a).length=a.length*2:=by
 induction a with
 |nil=>rfl
 |cons x r G=>simp only[fL,yal,G,yaq];simp only[Spn.cells,yaq,List.length_nil];omega
theorem qz:∀(a:List Spn) (k j:Nat),k<a.length->j<2->(fL a)[k*2+j]? =(a.getD k Spn.zero).cells[j]?
 |[],k,j,O,_=>by simp at O
 |x::r,0,j,_,hj=>by
  grind[fL,Spn.cells]
 |x::r,k+1,j,O,hj=>by
  have:(x::r).getD (k+1) Spn.zero=r.getD k _:=rfl
  rw[this,fL,yas (by grind[Spn.cells])]
  have e:(k+1)*2+j-x.cells.length=k*2+j:=by grind[Spn.cells]
  rw[e]
  exact qz r k j (by grind) hj
structure KB(W:World)(p:Nat)(b0 b1 b2 b3:Value):Prop where
 sz:p<W.heap.size
 q0:W.cell? ⟨p,0,none⟩=some b0
 q1:W.cell? ⟨p,1,none⟩=some b1
 q2:W.cell? ⟨p,2,none⟩=some b2
 q3:W.cell? ⟨p,3,none⟩=some b3
 f0:W.frozen? ⟨p,0,none⟩=false
 f1:W.frozen? ⟨p,1,none⟩=false
 f2:W.frozen? ⟨p,2,none⟩=false
 f3:W.frozen? ⟨p,3,none⟩=false
theorem KB.keepC{W S}(t:KB W p bE R aS aa)(k:Chg S W I)(aK:¬S p):KB I p bE R aS aa:=by
 have e:∀o,I.cell? ⟨p,o,none⟩=W.cell? _:=λo=>World.cell?_of_block (k.block p t.sz aK);have f:∀o,I.frozen? ⟨p,o,none⟩=W.frozen? _:=λo=>World.frozen?_of_block (k.block p t.sz aK);exact⟨yak t.sz k.size,hL e t.q0,hL e t.q1,hL e t.q2,hL e t.q3,hL f t.f0,hL f t.f1,hL f t.f2,hL f t.f3⟩
theorem KB.keep{W}(t:KB W p bE R aS aa)(k:Kept 0 0 W I):KB I p bE R aS aa:=t.keepC (S:=λ_=>False) k.chg (λh=>h)
theorem KB.put1{W}(t:KB W p bE R aS aa)(v):KB (W.setCell ⟨p,1,none⟩ v) p bE v aS aa:=by
 cases t;constructor<;>first|exact sM|simp_all
theorem KB.put2{W}(t:KB W p bE R aS aa)(v):KB (W.setCell ⟨p,2,none⟩ v) p bE R v aa:=by
 cases t;constructor<;>first|exact sM|simp_all
theorem KB.put3{W}(t:KB W p bE R aS aa)(v):KB (W.setCell ⟨p,3,none⟩ v) p bE R aS v:=by
 cases t;constructor<;>first|exact sM|simp_all
structure LP(W w1:World)(C B:Nat)(x0 u v:Value)(k m:Nat)(pk:Int)(ss:List Ste)(os:List Spn):Prop where
 bx:KB W C x0 u v (.int .i64 pk)
 pu:W.ownsRow B 64 8 u k (lg ss)
 pv:W.ownsRow B 67 2 v m (fL os)
 ne:∀g,u.ownBlock=some g->v.ownBlock≠some g
 ch:Chg (λb=>b=C\/B<=b) w1 W
 bz:B<=W.heap.size
theorem LP.keep{W}(f:LP W aA C J bz u v k m bA ss bG)(q:Kept 0 0 W I):LP I aA C J bz u v k m bA ss bG:=
 ⟨f.bx.keep q,eO f.pu q,eO f.pv q,f.ne,Chg.trans f.ch q.chg,yao f.bz q.size⟩
theorem LP.mid{W}(f:LP W aA C J bz u v k m bA ss bG)(bu:C<J)(aJ:((W.alloc o).drewN z).grownBy bj u.ownBlock):KB bj C bz u v (hA bA):=by
 have bh:=(ez 0 0 W o).trans (eJ 0 0 _ z);exact(f.bx.keep bh).keepC (gh aJ) (λc=>hJ ((eH f.pu c).1))
theorem LP.putU{W}(f:LP W aA C J bz u v k m bA ss bG)(bu:C<J)(ho:bj.ownsRow J 64 8 (hz g (k+1) cap) (k+1) (lg ss++s.cells))(aJ:((W.alloc o).drewN z).grownBy bj u.ownBlock)(ar:u.ownBlock=some g\/g=W.heap.size+1):
  LP (bj.setCell ⟨C,1,none⟩ (hz g (k+1) cap)) aA C J bz (hz g (k+1) cap) v (k+1) m bA (ss++[s]) bG:=by
 have bh:=(ez 0 0 W o).trans (eJ 0 0 _ z);have aH:=gh aJ;have K:∀b,u.ownBlock=some b->_:=λb hb=>(eH f.pu hb).1;have h:=eR (lo:=C) (hi:=C+1) bj ⟨C,1,none⟩ (hz g (k+1) cap) yac;have bQ:=(eH ho (k:=g) rfl).1;refine⟨(LP.mid f bu aJ).put1 _,?_,?_,?_,?_,?_⟩
 ·rw[xr,DS];exact eI ho (λc=>by simp[Value.ownBlock]at c;omega)
 ·refine eI (fi (eO f.pv bh) aH ?_) (λc=>hJ ((eH f.pv c).1));intro b hb c;exact f.ne b c hb
 ·exact xgh
 ·exact Chg.trans f.ch (Chg.trans bh.chg (Chg.trans (aH.mono λb _ c=>.inr (K b c)) (h.chg1 (.inl rfl))))
 exact xij
theorem LP.midV{W}(f:LP W aA C J bz u v k m bA ss bG)(bu:C<J)(aJ:((W.alloc o).drewN z).grownBy bj v.ownBlock):KB bj C bz u v (hA bA):=by
 have bh:=(ez 0 0 W o).trans (eJ 0 0 _ z);exact(f.bx.keep bh).keepC (gh aJ) (λc=>hJ ((eH f.pv c).1))
theorem LP.putV{W s}(f:LP W aA C J bz u v k m bA ss bG)(bu:C<J)(ho:bj.ownsRow J 67 2 (hz g (m+1) cap) (m+1) (fL bG++s.cells))(aJ:((W.alloc o).drewN z).grownBy bj v.ownBlock)(ar:v.ownBlock=some g\/g=W.heap.size+1):
  LP (bj.setCell ⟨C,2,none⟩ (hz g (m+1) cap)) aA C J bz u (hz g (m+1) cap) k (m+1) bA ss (bG++[s]):=by
 have bh:=(ez 0 0 W o).trans (eJ 0 0 _ z);have aH:=gh aJ;have K:∀b,v.ownBlock=some b->_:=λb hb=>(eH f.pv hb).1;have h:=eR (lo:=C) (hi:=C+1) bj ⟨C,2,none⟩ (hz g (m+1) cap) yac;have bQ:=(eH ho (k:=g) rfl).1;refine⟨(LP.midV f bu aJ).put2 _,?_,?_,?_,?_,?_⟩
 ·refine eI (fi (eO f.pu bh) aH ?_) (λc=>hJ ((eH f.pu c).1));intro b hb c;exact f.ne b hb c
 ·rw[iw,vu];exact eI ho (λc=>by simp[Value.ownBlock]at c;omega)
 ·exact xgi
 ·exact Chg.trans f.ch (Chg.trans bh.chg (Chg.trans (aH.mono λb _ c=>.inr (K b c)) (h.chg1 (.inl rfl))))
 exact xij
theorem LP.putP{W}(f:LP W aA C J bz u v k m bA ss bG)(bu:C<J)(x):LP (W.setCell ⟨C,3,none⟩ (hA x)) aA C J bz u v k m x ss bG:=by
 have h:=eR (lo:=C) (hi:=C+1) W ⟨C,3,none⟩ (hA x) yac;exact⟨f.bx.put3 _,eI f.pu (λc=>hJ ((eH f.pu c).1)),eI f.pv (λc=>hJ ((eH f.pv c).1)),f.ne,Chg.trans f.ch (h.chg1 (.inl rfl)),yao f.bz h.size⟩
theorem MW(w:World)(v:Ste)(m):∀j u,v.cells[j]? =some u->((w.alloc v.box).drewN m).cell? ((⟨w.heap.size,0,none⟩:Addr).add j)=some u:=
 World.news_of_block (w:=w.alloc v.box) (t:=64) (fr:=(0,0)) (cs:=#[hA v.op,hA v.len,hA v.n,hA v.dst,hA v.a,hA v.b,hA v.c,.float .f64 v.k]) (qd w _)
theorem PC(v:Ste):∀u∈v.cells,u.oneCell'=true:=by
 intro u aB;simp[Ste.cells]at aB;rcases aB with rfl|rfl|rfl|rfl|rfl|rfl|rfl|rfl<;>rfl
theorem MX(w:World)(v:Spn)(m):∀j u,v.cells[j]? =some u->((w.alloc v.box).drewN m).cell? ((⟨w.heap.size,0,none⟩:Addr).add j)=some u:=
 World.news_of_block (w:=w.alloc v.box) (t:=67) (fr:=(0,0)) (cs:=#[hA v.off,hA v.len]) (qd w _)
theorem PD(v:Spn):∀u∈v.cells,u.oneCell'=true:=by
 intro u aB;simp[Spn.cells]at aB;rcases aB with rfl|rfl<;>rfl
theorem xu(w g bE R aS aa)(c0:w.cell? ⟨g,0,none⟩=some bE)(c1:w.cell? ⟨g,1,none⟩=some R)(c2:w.cell? ⟨g,2,none⟩=some aS)(c3:w.cell? ⟨g,3,none⟩=some aa)(x y z u):
  (setC4 w g x y z u).cell? ⟨g,0,none⟩=some x/\(setC4 w g x y z u).cell? ⟨g,1,none⟩=some y/\(setC4 w g x y z u).cell? ⟨g,2,none⟩=some z/\(setC4 w g x y z u).cell? ⟨g,3,none⟩=some u:=by
 unfold setC4;refine⟨?_,?_,?_,?_⟩<;>exact sM
theorem tU(w:World):KB (w.alloc tO) w.heap.size (.slice none 0 0) (.slice none 0 0) (.slice none 0 0) (hA 0):=by
 constructor;all_goals first|(go_simp;done)|(simp;done)
theorem NJ(w:World)(x):KB (w.alloc (.cells #[x,.slice none 0 0,.slice none 0 0,hA 0] 33)) w.heap.size x (.slice none 0 0) (.slice none 0 0) (hA 0):=by
 constructor;all_goals first|(go_simp;done)|(simp;done)
theorem zv(w x):LP (w.alloc (.cells #[x,.slice none 0 0,.slice none 0 0,hA 0] 33)) w w.heap.size (w.heap.size+1) x (.slice none 0 0) (.slice none 0 0) 0 0 0 [] []:=
 ⟨NJ w x,yaw _ _ _ _,yaw _ _ _ _,λg h=>by simp[Value.ownBlock]at h,(ez 0 0 w _).chg,by simp⟩
theorem AtT.put2{W}(t:AtT W S 0 s)(x):AtT (W.setCell ⟨S,2,none⟩ (hA x)) S 0 ⟨s.op,s.len,x,s.dst,s.a,s.b,s.c,s.k⟩:=by
 cases t;constructor<;>first|exact sM|simp_all
theorem AtT.setC4{W}(t:AtT W S 0 s)(x):AtT (W.setCell ⟨S,4,none⟩ (hA x)) S 0 ⟨s.op,s.len,s.n,s.dst,x,s.b,s.c,s.k⟩:=by
 cases t;constructor<;>first|exact sM|simp_all
theorem AtT.put5{W}(t:AtT W S 0 s)(x):AtT (W.setCell ⟨S,5,none⟩ (hA x)) S 0 ⟨s.op,s.len,s.n,s.dst,s.a,x,s.c,s.k⟩:=by
 cases t;constructor<;>first|exact sM|simp_all
theorem AtT.put6{W}(t:AtT W S 0 s)(x):AtT (W.setCell ⟨S,6,none⟩ (hA x)) S 0 ⟨s.op,s.len,s.n,s.dst,s.a,s.b,x,s.k⟩:=by
 cases t;constructor<;>first|exact sM|simp_all
theorem AtT.put7{W}(t:AtT W S 0 s)(x):AtT (W.setCell ⟨S,7,none⟩ (.float .f64 x)) S 0 ⟨s.op,s.len,s.n,s.dst,s.a,s.b,s.c,x⟩:=by
 cases t;constructor<;>first|exact sM|simp_all
structure RD(W w3:World)(C B V S:Nat)(x0 u:Value)(k:Nat)(pk:Int)(ss:List Ste)(v:Vl)(s:Ste):Prop where
 lp:LP W w3 C B x0 u (.slice none 0 0) k 0 pk ss []
 va:At W V 0 v
 ta:AtT W S 0 s
 tf:∀o,W.frozen? ⟨S,o,none⟩=false
 lt:S<W.heap.size
 vs:V<S
 bv:B<=V
 cb:C<B
 un:∀g,u.ownBlock=some g->g<V
theorem RD.start{W v}(w:LP W aF C J bz u (.slice none 0 0) k 0 bA ss [])(r:At W V 0 v)(bO:W.heap.size=V+1)(ek:J<=V)(cb:C<J)(l:∀g,u.ownBlock=some g->g<V)(s):RD (W.alloc s.box) aF C J V (V+1) bz u k bA ss v s:=by
 have q:=ez 0 0 W s.box;have e:∀g o,g<W.heap.size->_:=λg o h=>q.cell (p:=⟨g,o,none⟩) h xaa;obtain⟨c0,c1,c2,c3,c4,c5⟩:=r;have aI:=lR W s;rw[bO]at aI;refine⟨w.keep q,⟨?_,?_,?_,?_,?_,?_⟩,aI,λo=>by rw[<-bO];simp,by simp;omega,by omega,ek,cb,l⟩;all_goals grind
theorem RD.set{W v B}(f:RD W aF C J V S bz u k bA ss v s){o x}(ar:AtT (W.setCell ⟨S,o,none⟩ x) S 0 B):RD (W.setCell ⟨S,o,none⟩ x) aF C J V S bz u k bA ss v B:=by
 have h:=eR (lo:=S) (hi:=S+1) W ⟨S,o,none⟩ x yac;have F:=f.vs;have N:=f.bv;have h3:=f.cb;have a6:=f.lt;have e:∀q,(W.setCell ⟨S,o,_⟩ x).cell? ⟨V,q,_⟩=W.cell? _:=λq=>eQ _ _ _ _ _ _ (.inl xaa);refine⟨⟨f.lp.bx.keepC (h.chg1 rfl) xaa,eI f.lp.pu (λc=>hJ (f.un _ c)),eI f.lp.pv (λc=>by simp[Value.ownBlock]at c),f.lp.ne,Chg.trans f.lp.ch (h.chg1 (.inr xaa)),yao f.lp.bz h.size⟩,?_,ar,λbp=>by simp[f.tf],by simpa using f.lt,F,N,h3,f.un⟩;obtain⟨c0,c1,c2,c3,c4,c5⟩:=f.va;exact⟨hL e c0,hL e c1,hL e c2,hL e c3,hL e c4,hL e c5⟩
theorem RD.keep{W v}(f:RD W aF C J V S bz u k bA ss v s)(q:Kept 0 0 W I):RD I aF C J V S bz u k bA ss v s:=by
 have e:∀g o,g<W.heap.size->_:=λg o h=>q.cell (p:=⟨g,o,none⟩) h xaa;have F:=f.vs;have a6:=f.lt;obtain⟨c0,c1,c2,c3,c4,c5⟩:=f.va;obtain⟨bS,aH,bf,Y,bC,bZ,ad,an⟩:=f.ta;refine⟨f.lp.keep q,⟨?_,?_,?_,?_,?_,?_⟩,⟨?_,?_,?_,?_,?_,?_,?_,?_⟩,λo=>by rw[q.frozen f.lt xaa];exact f.tf o,yak f.lt q.size,F,f.bv,f.cb,f.un⟩;all_goals grind
theorem RD.kept{W v}(f:RD W aF C J V S bz u k bA ss v s)(bu:aF.heap.size<=C):Kept 0 0 aF W:=
 Chg.kept (Kept.refl 0 0 aF) f.lp.ch (λb hb=>hJ f.cb)
end
section
variable{vs:List Vl}{aV a:Int}{p l r:List Spn}{t x s:Spn}{ps outs:List Int}{j n k i q bm:Nat}{Y:Int->Prop}{T:Nat->Prop}
def inS(s:Spn)(c:Int):Prop:=s.off<=c/\c<s.off+s.len
def RunsF:Int->List Spn->Prop
 |_,[]=>True
 |lo,s::r=>lo<=s.off/\1<=s.len/\RunsF (s.off+s.len+1) r
theorem RunsF.mono{lo lo'}(h:lo'<=lo)(f:RunsF lo l):RunsF lo' l:=by
 cases l<;>grind[RunsF]
theorem RunsF.mem{lo}(f:RunsF lo l):∀s∈l,lo<=s.off/\1<=s.len:=by
 induction l generalizing lo<;>grind[RunsF]
theorem RunsF.apart{lo}(f:RunsF lo l):∀s∈l,∀t∈l,s=t\/s.off+s.len<t.off\/t.off+t.len<s.off:=by
 induction l generalizing lo with
 |nil=>intro s h;cases h
 |cons u r G=>have:=RunsF.mem f.2.2;have:=G f.2.2;grind
structure FL(N:Int)(l:List Spn)(H:Int->Prop):Prop where
 runs:RunsF 0 l
 free:∀c,0<=c->c<N->(¬H c↔∃s∈l,inS s c)
 top:∀s∈l,s.off+s.len<=N
theorem Cj{lo}(f:RunsF lo l)(h:∀k:Nat,k<=n->∃s∈l,inS s (a+k)):∃s∈l,s.off<=a/\a+n<s.off+s.len:=by
 induction n with
 |zero=>grind[h 0,inS]
 |succ n G=>
  obtain⟨s,au,F,N⟩:=G λk O=>h k xaa;obtain⟨t,ht,h3,a6⟩:=h (n+1) yad;have:=f.apart s au t ht;exact⟨s,au,F,by grind⟩
theorem xv{lo l}(f:RunsF lo l){i j}(h:i<j)(hj:j<l.length):(l.getD i Spn.zero).off+(l.getD i Spn.zero).len<(l.getD j Spn.zero).off:=by
 induction l generalizing lo i j with
 |nil=>cases hj
 |cons t r G=>
  cases j with
  |zero=>omega
  |succ j=>
   cases i with
   |zero=>have:=RunsF.mem f.2.2 (r.getD j Spn.zero) (by grind);grind
   |succ i=>have:=G f.2.2 (i:=i) (j:=j);grind
def ke(n:Int)(l:List Spn):Option Nat:=l.findIdx? λs=>decide (n<=s.len)
theorem ow{n}(h:ke n l=some k):k<l.length/\n<=(l.getD k Spn.zero).len/\∀j,j<k->(l.getD j Spn.zero).len<n:=by
 obtain⟨F,N,h3⟩:=List.findIdx?_eq_some_iff_getElem.1 h;exact⟨F,by grind,λj hj=>by have:=h3 j hj;grind⟩
theorem GO{n}(h:ke n l=none):∀s∈l,s.len<n:=by
 have:=List.findIdx?_eq_none_iff.1 h;grind
theorem DT(f:FL aV l Y)(ad:1<=n)(O:ke n l=some k):
  (∀c,(l.getD k Spn.zero).off<=c->c<(l.getD k Spn.zero).off+n->¬Y c)/\∀a:Int,0<=a->a+n<=aV->(∀c,a<=c->c<a+n->¬Y c)->(l.getD k Spn.zero).off<=a:=by
 obtain⟨F,N,h3⟩:=ow O;have am:l.getD k Spn.zero∈l:=by grind
 have aD:=RunsF.mem f.runs _ am;have ht:=f.top _ am;refine⟨λc c1 c2=>(f.free c xaa xaa).2 ⟨_,am,c1,by omega⟩,λa v cc h=>?_⟩;obtain⟨s,au,aq,aN⟩:=Cj f.runs (a:=a) (n:=n-1) (λq ap=>(f.free (a+q) xaa xaa).1 (h (a+q) xaa xaa));obtain⟨j,hj,e⟩:=List.getElem_of_mem au;have:=h3 j;have:=@xv _ _ f.runs k j;grind
theorem DU(f:FL aV l Y)(ad:1<=n)(v:0<=a)(cc:a+n<=aV)(h:∀c,a<=c->c<a+n->¬Y c):∃k,ke n l=some k:=by
 obtain⟨s,au,aq,aN⟩:=Cj f.runs (a:=a) (n:=n-1) (λq ap=>(f.free (a+q) xaa xaa).1 (h (a+q) xaa xaa));cases O:ke n l with
 |some k=>exact⟨k,rfl⟩
 |none=>have:=GO O s au;omega
theorem RunsF.from{lo b}(h:RunsF lo r)(hb:∀s∈r,b<=s.off):RunsF b r:=by
 cases r<;>grind[RunsF]
theorem runs_app{lo q}:RunsF lo (p++q)↔RunsF lo p/\RunsF lo q/\∀s∈p,∀t∈q,s.off+s.len<t.off:=by
 induction p generalizing lo with
 |nil=>simp[RunsF]
 |cons u v G=>
  simp only[List.cons_append,RunsF,G,List.mem_cons,forall_eq_or_imp];exact⟨λ⟨F,N,h3,a6,bF⟩=>⟨⟨F,N,h3⟩,a6.mono xaa,λt ht=>hJ (a6.mem t ht),bF⟩,λ⟨⟨F,N,h3⟩,a6,bF,bp⟩=>⟨F,N,h3,a6.from λt ht=>hJ (bF t ht),bp⟩⟩
def xw(s:Spn)(n:Int):List Spn:=if n<s.len then[⟨s.off+n,s.len-n⟩] else[]
theorem Kh(f:FL aV (p++s::r) Y){n}(ad:1<=n)(au:n<=s.len):FL aV (p++xw s n++r) (λc=>Y c\/(s.off<=c/\c<s.off+n)):=by
 obtain⟨aM,⟨F,N,h3⟩,an⟩:=runs_app.1 f.runs;have aD:=h3.mem;have ht:=f.top;refine⟨?_,λc c0 I=>?_,?_⟩
 ·rw[List.append_assoc,runs_app];refine⟨aM,?_,?_⟩
  ·unfold xw;split
   ·exact⟨by show 0<=s.off+n;omega,by show 1<=s.len-n;omega,h3.mono (by show s.off+n+(s.len-n)+1<=_;omega)⟩
   exact h3.mono xaa
  grind[xw]
 ·have a5:=f.free c c0 I;unfold xw;split<;>simp only[List.mem_append,List.mem_cons,List.not_mem_nil,or_false,or_and_right,exists_or,exists_eq_left,inS]at a5 an⊢<;>grind
 grind[xw]
def qA(l:List Spn)(k:Nat)(n:Int):List Spn:=l.take k++xw (l.getD k Spn.zero) n++l.drop (k+1)
theorem PE(h:k<l.length):l=l.take k++l.getD k Spn.zero::l.drop (k+1):=by
 simp[h]
def jU(s:Spn):List Spn->List Spn
 |[]=>[s]
 |t::r=>if s.off+s.len=t.off then⟨s.off,s.len+t.len⟩::r else s::t::r
def zw(p:List Spn)(x:Spn)(r:List Spn):List Spn:=
 match p.getLast? with
 |some q=>p.dropLast++jU q (jU x r)
 |none=>jU x r
theorem ri(e:x.off+x.len=t.off):jU x (t::r)=⟨x.off,x.len+t.len⟩::r:=hD e
theorem rj(e:¬x.off+x.len=t.off):jU x (t::r)=x::t::r:=hC e
theorem vw{lo}(al:lo<=x.off)(F:1<=x.len)(aD:RunsF (x.off+x.len) r)(h:x.off+x.len<=aV)(ht:∀s∈r,s.off+s.len<=aV):RunsF lo (jU x r)/\(∀c,(∃s∈jU x r,inS s c)↔inS x c\/∃s∈r,inS s c)/\∀s∈jU x r,s.off+s.len<=aV:=by
 cases r with
 |nil=>simp[*,jU,RunsF]
 |cons t r=>
  obtain⟨aq,aN,be⟩:=aD;by_cases e:x.off+x.len=t.off
  ·rw[ri e];refine⟨⟨al,by show 1<=x.len+t.len;omega,be.mono (by show x.off+(x.len+t.len)+1<=_;omega)⟩,λc=>?_,by grind⟩;have:(x.off<=c/\c<x.off+(x.len+t.len))↔(x.off<=c/\c<x.off+x.len)\/(t.off<=c/\c<t.off+t.len):=xaa;simp only[List.mem_cons,exists_eq_or_imp,inS,this,or_assoc]
  rw[rj e];exact⟨⟨al,F,by omega,aN,be⟩,by simp,by grind⟩
theorem Bf(f:FL aV (p++r) Y)(F:1<=x.len)(al:0<=x.off)(bC:x.off+x.len<=aV)(an:∀c,inS x c->Y c)(aM:∀s∈p,s.off<x.off)(aD:∀s∈r,x.off<=s.off):FL aV (zw p x r) (λc=>Y c/\¬inS x c):=by
 obtain⟨ay,a0,ch⟩:=runs_app.1 f.runs;have Q:=RunsF.mem f.runs;have bd:=f.top
 have g:∀s∈p++r,∀c,inS s c->¬inS x c:=λs au c ah o=>by
  have N:=Q s au
  have h3:=bd s au
  unfold inS at ah
  exact(f.free c xaa xaa).2 ⟨s,au,ah⟩ (an c o)
 have m:RunsF (x.off+x.len) r:=a0.from λs au=>by
  have:=g s (by grind) s.off
  grind[inS]
 have h:∀s∈p,s.off+s.len<=x.off:=λs au=>by
  have:=g s (by grind) x.off
  grind[inS]
 obtain⟨aO,P,cq⟩:=vw (Int.le_refl x.off) F m bC λs au=>bd s (by grind)
 have e:∀c,0<=c->c<aV->(¬(Y c/\¬inS x c)↔(∃s∈p,inS s c)\/∃s∈jU x r,inS s c):=λc c0 I=>by
  have:=f.free c c0 I
  have:=g
  grind
 unfold zw;rcases List.eq_nil_or_concat p with rfl|⟨u,q,rfl⟩
 ·exact⟨aO.mono al,λc c0 I=>by rw[e c c0 I];simp,cq⟩
 rw[List.concat_eq_append] at*;obtain⟨aC,⟨aL,b1,_⟩,ba⟩:=runs_app.1 ay;have ap:=h q (by grind);obtain⟨aw,ak,aR⟩:=vw (Int.le_refl q.off) b1 (aO.mono ap) xaa cq;simp only[List.getLast?_append,List.getLast?_singleton,Option.some_or,List.dropLast_concat];refine⟨runs_app.2 ⟨aC,aw.mono aL,?_⟩,λc c0 I=>?_,?_⟩
 ·have:=aw.mem;grind
 ·rw[e c c0 I];have:=ak c;grind
 grind
def gz(vs:List Vl)(ps:List Int)(j:Nat):Spn:=⟨ps.getD j 0,(vs.getD j hF).len⟩
structure PlI(vs:List Vl)(ps:List Int)(l:List Spn)(T:Nat->Prop):Prop where
 fl:FL 50000 l (λc=>∃j,T j/\inS (gz vs ps j) c)
 dis:∀j j',T j->T j'->j≠j'->∀c,inS (gz vs ps j) c->¬inS (gz vs ps j') c
theorem FL.congr{o}(f:FL aV l Y)(h:∀c,Y c↔o c):FL aV l o:=by
 rwa [<-funext λc=>propext (h c)]
theorem PlI.congr{e}(f:PlI vs ps l T)(h:∀j,T j↔e j):PlI vs ps l e:=by
 rwa [<-funext λc=>propext (h c)]
theorem GP(vs ps):PlI vs ps [Spn.mk 0 50000] (λ_=>False) where
 fl:=⟨⟨Int.le_refl _,by decide,trivial⟩,by simp[inS];omega,by simp⟩
 dis:=λ_ _ h=>h.elim
theorem Bg(vs outs)(h:j<i):∀n,i<=n->(eW vs outs n).getD j 0=(eW vs outs i).getD j 0:=λn=>by
 induction n with
 |zero=>omega
 |succ n G=>by_cases e:i=n+1<;>grind[xo]
theorem DV{lo}(f:RunsF lo l)(ht:∀s∈l,s.off+s.len<=aV)(h:lo<=aV):(l.length:Int)<=aV-lo+1:=by
 induction l generalizing lo with
 |nil=>simp;omega
 |cons s r G=>
  have:=G (lo:=s.off+s.len) (f.2.2.mono xaa);grind[RunsF]
theorem PlI.few(f:PlI vs ps l T):l.length<=60000:=by
 have:=DV f.fl.runs f.fl.top xab;omega
theorem Ki(af:∀k,k<n->1<=(vs.getD k hF).len)(au:jW vs n<=50000)(hi:i<n)
  (f:PlI vs (eW vs outs n) l (λj=>j<i/\(i:Int)<=iA vs outs j)):
  ∃k,ke (vs.getD i hF).len l=some k/\Spn.mk (l.getD k Spn.zero).off (vs.getD i hF).len=gz vs (eW vs outs n) i/\PlI vs (eW vs outs n) (qA l k (vs.getD i hF).len) (λj=>(j<i/\(i:Int)<=iA vs outs j)\/j=i):=by
 obtain⟨a,ar,w,g,u⟩:=tP (outs:=outs) af au hi
 have hP:(eW vs outs n).getD i 0=a:=by
  rw[Bg vs outs (Nat.lt_succ_self i) n hi,xq];exact ar
 have hb:=kZ (outs:=outs) af au n yad i hi;have bA:=gY af (i:=i+1) (j:=n) xaa xaa;have F:=af i hi;obtain⟨m,am⟩:=Int.eq_ofNat_of_zero_le (show 0<=(vs.getD i hF).len by omega);rw[hP]at hb;rw[am]at g u hb F⊢
 have aB:∀b:Nat,jA vs outs (eW vs outs i) i (m:Int) (b:Int)=true↔∀c:Int,(b:Int)<=c->c<b+m->¬∃j,(j<i/\(i:Int)<=iA vs outs j)/\inS (gz vs (eW vs outs n) j) c:=λb=>by
  unfold jA inS gz
  rw[List.all_eq_true]
  refine⟨λh c c1 c2 ⟨j,⟨aO,P⟩,ah⟩=>?_,λh j hj=>?_⟩
  ·have:=h j (List.mem_range.2 aO)
   have:=Bg vs outs aO n xaa
   grind[nF]
  ·have aO:=List.mem_range.1 hj
   have:=Bg vs outs aO n xaa
   have:=af j xaa
   have:=h b
   have:=h ((eW vs outs i).getD j 0)
   grind[nF]
 have e:=(aB a).1 g;obtain⟨k,O⟩:=DU f.fl (n:=m) xaa (a:=a) xaa xaa e;obtain⟨aC,aL,b1⟩:=ow O;obtain⟨aq,aN⟩:=DT f.fl (n:=m) xaa O;have be:=aN a xaa xaa e;have y:=PE aC;have Q:=f.fl;rw[y]at Q;refine⟨k,O,?_⟩;unfold qA;generalize l.getD k Spn.zero=s at Q aq be aL⊢
 have ho:s.off=a:=by
  have:=(Q.runs.mem s xac).1;obtain⟨o,ho⟩:=Int.eq_ofNat_of_zero_le this;rw[ho]at aq be;have:=(aB o).2 aq;have:=u o;grind
 have z:∀c,inS (gz vs (eW vs outs n) i) c↔s.off<=c/\c<s.off+m:=λc=>by
  unfold inS gz
  rw[hP,ho,am]
 refine⟨by rw[gz,hP,ho,am],FL.congr (Kh Q (n:=m) xaa aL) λc=>?_,λj v=>?_⟩
 ·grind
 have:=f.dis j v;grind
theorem NK(f:PlI vs ps (p++r) T)(hj:T bm)(an:gz vs ps bm=x)(F:1<=x.len)(al:0<=x.off)(bC:x.off+x.len<=50000)(aM:∀s∈p,s.off<x.off)(aD:∀s∈r,x.off<=s.off):
  PlI vs ps (zw p x r) (λj=>T j/\j≠bm):=
 ⟨FL.congr (Bf f.fl F al bC (λc ah=>⟨bm,hj,hL an ah⟩) aM aD) λc=>by have:=f.dis bm;grind,λj v F N=>f.dis j v F.1 N.1⟩
def nG(vs:List Vl)(i j:Nat):Int:=if ie vs j (i-(j+1))=-1 then (j:Int)else ie vs j (i-(j+1))
def iB(vs:List Vl)(outs:List Int)(n b:Nat):List Int:=((List.range n).filter λj=>nG vs vs.length j==(b:Int)&&!isO outs j).map λ(j:Nat)=>(j:Int)
theorem rl(vs j m):ie vs j m=-1\/((j:Int)+1<=ie vs j m/\ie vs j m<=(j:Int)+m):=by
 induction m<;>grind[ie]
theorem NL(vs)(i j:Nat)(h:j<i):(j:Int)<=nG vs i j/\nG vs i j<i:=by
 have:=rl vs j (i-(j+1));grind[nG]
theorem DW(hi:i<vs.length)(j):
  (((j<i/\(i:Int)<=iA vs outs j)\/j=i)/\¬(nG vs vs.length j=(i:Int)/\isO outs j=false))↔(j<i+1/\((i+1:Nat):Int)<=iA vs outs j):=by
 have:=rl vs j (vs.length-(j+1));grind[iA,nG]
theorem Bh(x r):∃y u,jU x r=y::u/\y.off=x.off:=by
 cases r with
 |nil=>exact⟨_,_,rfl,rfl⟩
 |cons t r=>by_cases e:x.off+x.len=t.off<;>simp[jU,e]
structure LbS(l:List Spn)(x:Int)(i:Nat):Prop where
 le:i<=l.length
 lo:∀k,k<i->(l.getD k Spn.zero).off<x
 hi:∀k,i<=k->k<l.length->x<=(l.getD k Spn.zero).off
theorem GQ{x}(h:LbS l x i):∀s∈l.take i,s.off<x:=λs au=>by
 obtain⟨j,hj,rfl⟩:=List.mem_take_iff_getElem.1 au
 have:=h.lo j
 grind
theorem GR{x}(h:LbS l x i):∀s∈l.drop i,x<=s.off:=λs au=>by
 obtain⟨j,hj,rfl⟩:=List.mem_drop_iff_getElem.1 au
 have:=h.hi (i+j)
 grind
theorem Kj{x}(h:LbS (p++r) x i)(F:∀s∈p,s.off<x)(N:∀s∈r,x<=s.off):i=p.length:=by
 rcases Nat.lt_trichotomy i p.length with c|c|c
 ·have:=h.hi i yad (by grind);have:=F p[i] xac;grind
 ·exact c
 have:=h.lo p.length c;have:=h.le;have:=N (r[0]'(by grind)) xac;grind
def InB(s:Spn):Prop:=0<=s.off/\0<=s.len/\s.off+s.len<=50000
structure TkP(l:List Spn)(k:Nat)(n:Int)(s:Spn):Prop where
 runs:RunsF 0 (l.take k++l.drop (k+1))
 len:(l.take k++l.drop (k+1)).length<=1000000
 off:0<=s.off/\n<=s.len/\s.off+s.len<=50000
 cut:n<s.len->∀i,LbS (l.take k++l.drop (k+1)) (s.off+n) i->(l.take k++l.drop (k+1)).take i++Spn.mk (s.off+n) (s.len-n)::(l.take k++l.drop (k+1)).drop i=qA l k n
 all_:¬n<s.len->l.take k++l.drop (k+1)=qA l k n
theorem DX{n}(au:RunsF 0 l)(hb:l.length<=1000000)(ad:1<=n)(ht:∀s∈l,s.off+s.len<=50000)(O:ke n l=some k)(aZ:l.getD k Spn.zero=s):TkP l k n s:=by
 obtain⟨aw,ak,_⟩:=ow O;have y:=PE aw;have bd:qA l k n=l.take k++xw s n++l.drop (k+1):=by rw[qA,aZ]
 rw[aZ]at y ak;rw[y]at au ht;obtain⟨F,⟨N,h3,a6⟩,bF⟩:=runs_app.1 au;refine⟨runs_app.2 ⟨F,a6.mono xaa,by grind⟩,by simp;omega,⟨N,ak,ht s xac⟩,λc i hi=>?_,λc=>by simp[bd,xw,c]⟩;obtain rfl:=Kj hi (λu aB=>hK (bF u aB s xac) (F.mem u aB)) λu aB=>hJ (a6.mem u aB)
 simp[bd,xw,c]
theorem GT(an:InB x)(aD:∀s∈r,InB s):∀s∈jU x r,InB s:=by
 cases r with
 |nil=>grind[jU]
 |cons t r=>
  have:=aD t;by_cases e:x.off+x.len=t.off
  ·rw[ri e];grind[InB]
  rw[rj e];grind
theorem zx(x r):(jU x r).length<=r.length+1:=by
 cases r with
 |nil=>simp[jU]
 |cons t r=>grind[jU]
theorem DY(p q x r):∀y u,jU x r=y::u->y.off=x.off->zw (p++[q]) x r=p++jU q (y::u):=λy u Z _=>by
 simp[zw,Z]
def lsP(vs:List Vl)(n i:Nat):List Int:=(List.range n).map λj=>if j<i then nG vs i j else 0
theorem kS(vs n i):(lsP vs n i).length=n:=by simp[lsP]
theorem Bi(vs)(h:j<n):(lsP vs n i).getD j 0=if j<i then nG vs i j else 0:=by
 simp[lsP,h]
def lsK(xs:List Int)(v:Vl)(i:Nat):Nat->List Int
 |0=>xs.set i (i:Int)
 |q+1=>(lsK xs v i q).set (fld v q).toNat (i:Int)
theorem xy(xs v i q):(lsK xs v i q).length=xs.length:=by
 induction q<;>simp_all[lsK]
theorem NM(xs v i q)(h:∀k,k<q->0<=fld v k/\fld v k<xs.length)(hi:i<xs.length)(j)(hj:j<xs.length):(lsK xs v i q).getD j 0=if j=i\/((List.range q).any λk=>fld v k==(j:Int))=true then (i:Int)else xs.getD j 0:=by
 induction q with
 |zero=>grind[lsK]
 |succ q G=>
  have:=G λk O=>h k xaa;have:=h q yaf;rw[List.range_succ,List.any_append];grind[lsK,xy]
theorem GU(vs){i j}(h:j<i):nG vs (i+1) j=if qu (vs.getD i hF) j=true then (i:Int)else nG vs i j:=by
 unfold nG;rw[show i+1-(j+1)=(i-(j+1))+1 by omega,ie,show j+1+(i-(j+1))=i by omega];grind
theorem Kk(hi:i<n)(h:∀k,k<cnt (vs.getD i hF).op->0<=fld (vs.getD i hF) k/\fld (vs.getD i hF) k<i):lsK (lsP vs n i) (vs.getD i hF) i (cnt (vs.getD i hF).op)=lsP vs n (i+1):=by
 refine List.ext_getElem (by rw[xy,kS,kS]) (λj F N=>?_);have hj:j<n:=by rw[kS]at N;exact N
 have a:=NM (lsP vs n i) (vs.getD i hF) i (cnt (vs.getD i hF).op) (λk O=>by have:=h k O;rw[kS];omega) (by rw[kS];exact hi) j (by rw[kS];exact hj);have b:=Bi vs (i:=i+1) hj;rw[Bi vs hj]at a;have e:=@GU vs i j;have z:nG vs (i+1) i=i:=by simp[nG,ie]
 have u:qu (vs.getD i hF) j=true->j<i:=λaB=>by
  obtain⟨k,O,aZ⟩:=List.any_eq_true.1 aB
  have:=h k (List.mem_range.1 O)
  grind
 change _=if j=i\/qu (vs.getD i hF) j=true then (i:Int)else _ at a;grind
theorem Bj(vs outs i b):iB vs outs (i+1) b=iB vs outs i b++(if nG vs vs.length i=(b:Int)/\isO outs i=false then[(i:Int)] else[]):=by
 unfold iB;rw[List.range_succ,List.filter_append,List.map_append];grind
theorem vx(vs outs i b):(iB vs outs i b).length<=i:=by
 unfold iB;have:=List.length_filter_le (λj=>nG vs vs.length j==(b:Int)&&!isO outs j) (List.range i);simpa using this
theorem doneL_mem{b o}:o∈iB vs outs n b↔∃j:Nat,o=j/\j<n/\nG vs vs.length j=b/\isO outs j=false:=by
 unfold iB;grind
def mB(vs:List Vl)(ps:List Int)(n i:Nat):List Spn:=(List.range n).map λj=>if j<i then gz vs ps j else Spn.zero
theorem GV(vs ps n i):(mB vs ps n i).length=n:=by simp[mB]
theorem sw(vs ps)(h:j<n):(mB vs ps n i).getD j Spn.zero=if j<i then gz vs ps j else Spn.zero:=by
 simp[mB,h]
theorem DZ(vs ps n):mB vs ps n 0=List.replicate n Spn.zero:=
 List.eq_replicate_iff.2 ⟨GV _ _ _ _,by grind[mB]⟩
theorem GW(vs ps n i):(mB vs ps n i).set i (gz vs ps i)=mB vs ps n (i+1):=
 List.ext_getElem (by simp[mB]) λj F N=>by grind[mB]
theorem PlI.inb(f:PlI vs ps l T):∀s∈l,InB s:=λs au=>by
 have:=f.fl.runs.mem s au
 have:=f.fl.top s au
 grind[InB]
def lT(vs:List Vl)(outs:List Int)(n i q:Nat)(j:Nat):Prop:=((j<i/\(i:Int)<=iA vs outs j)\/j=i)/\(j:Int)∉(iB vs outs n i).take q
theorem zy(vs outs n b):(iB vs outs n b).Nodup:=by
 unfold iB;rw[List.nodup_iff_pairwise_ne,List.pairwise_map];exact List.Pairwise.imp (λ{a b} (h:a<b)=>by omega) (List.Pairwise.filter _ List.pairwise_lt_range)
theorem zB(vs outs n i)(j:Nat):((j<i/\(i:Int)<=iA vs outs j)\/j=i)↔lT vs outs n i 0 j:=by
 simp[lT]
theorem D0(ad:vs.length=n)(hi:i<n)(j):lT vs outs n i (iB vs outs n i).length j↔(j<i+1/\((i+1:Nat):Int)<=iA vs outs j):=by
 rw[<-DW (by omega:i<vs.length) j];unfold lT;rw[yap yad,doneL_mem];grind
theorem Bk(ap:q<(iB vs outs n i).length)(e:(iB vs outs n i).getD q 0=(bm:Int))(j):(lT vs outs n i q j/\j≠bm)↔lT vs outs n i (q+1) j:=by
 unfold lT;rw[yau ap];grind
theorem GX(ap:q<(iB vs outs n i).length):∃bm:Nat,(iB vs outs n i).getD q 0=(bm:Int)/\bm<=i/\lT vs outs n i q bm:=by
 obtain⟨j,e,_,N,h3⟩:=doneL_mem.1 (List.getElem_mem ap);have:=rl vs j (vs.length-(j+1));have aD:(j<i/\(i:Int)<=iA vs outs j)\/j=i:=by grind[iA,nG]
 refine⟨j,by grind,by omega,aD,λam=>?_⟩;obtain⟨p,aM,B⟩:=List.mem_take_iff_getElem.1 am;have:=List.pairwise_iff_getElem.1 (List.nodup_iff_pairwise_ne.1 (zy vs outs n i)) p q;grind
end
section
attribute[local go_sem] eF eE eD
variable{w:World}{g n:Nat}{b:Nat->Bool}
def rm(x y:Int):Int:=if x<y then -1 else if y<x then 1 else 0
theorem NO(x w):Calls prog 110 #[hA x] w λe B=>e=.returned (.bool false)/\B=w:=by
 have h:(x !=x)=false:=by simp
 go_enter func110,ntmps110;go_wp2;go_ret;exact⟨rfl,rfl⟩
theorem NP(x y w):Calls prog 86 #[hA x,hA y] w λe B=>e=.returned (hA (rm x y))/\B=w:=by
 have bm:E (∀x w,_):=λx w=>NO x w;rcases Int.lt_trichotomy x y with h|h|h
 ·rw[show rm x y=-1 by unfold rm;rw[hD h]];exact xcv
 ·subst h;rw[show rm x x=0 by unfold rm;rw[hC xaa,hC xaa]];have F:¬x<x:=xaa;exact xcv
 rw[show rm x y=1 by unfold rm;rw[hC xaa,hD h]];have F:¬x<y:=xaa;exact xcv
theorem MY(s t:Spn)(w):Calls prog 85 #[s.agg,t.agg] w λe B=>e=.returned (hA (rm s.off t.off))/\Kept 0 0 w B:=by
 have HC:E (∀w,_):=λw=>NP s.off t.off w;have k:=(ez 0 0 w s.box).trans (ez 0 0 _ t.box);go_enter func85,ntmps85;go_wp2_with fail;refine yaj (HC.o _) ?_;rintro e ag ⟨rfl,rfl⟩;go_wp2_with fail;go_ret;exact⟨rfl,k⟩
theorem MZ(s:Spn)(w g n)(aJ:g<w.heap.size)(ah:w.cell? ⟨g,0,none⟩=some (hA n)):Calls prog 88 #[s.agg,hy g] w λe B=>e=.returned (.bool (decide (n<=s.len)))/\Kept 0 0 w B:=by
 have k:=ez 0 0 w s.box;have Z:(w.alloc s.box).cell? ⟨g,0,none⟩=some (hA n):=by rw[k.cell (p:=⟨g,0,none⟩) aJ xaa];exact ah
 go_enter func88,ntmps88;go_wp2_with fail;go_ret;exact⟨rfl,k⟩
theorem NQ(w lo hi a m c l g n)(aJ:g<w.heap.size)(ah:w.cell? ⟨g,0,none⟩=some (hA n))(f:PS w lo hi a m l)(am:m<=1000000)(k)(O:ke n l=some k):
  Calls prog 90 #[.slice a m c,.func (.func 88) #[] #[hy g]] w λe B=>e=.returned (hA k)/\Kept 0 0 w B:=by
 obtain⟨F,N,h3⟩:=ow O;have HF:E _:=f;have HC:E _:=ah;have HL:E (l.length=m):=f.len;have G:k<m:=by rw[f.len]at F;exact F
 have aU:E (n<=(l.getD k Spn.zero).len/\∀j,j<k->(l.getD j Spn.zero).len<n):=⟨N,h3⟩
 clear f ah F N h3 O;go_enter func90,ntmps90;go_wp2_with fail;go_loopw [8] (λi W=>∃j:Nat,j<=k/\i=hA j/\E (Kept 0 0 w W)) (λi _=>m-(intOf i).toNat)
 case atStart=>exact⟨0,yae,rfl,Kept.refl _ _ _⟩
 case round=>
  obtain⟨j,hj,rfl,aI⟩:=hrel;have X:j<m:=xaa;rcases (HF.o.keep aI.o yaa).at_ with z|⟨az,off,rfl,aQ,a8,bi,bk⟩
  ·omega
  have a7:=bk j X;have be:E (g<wr.heap.size/\wr.cell? ⟨g,0,none⟩=some (hA n)):=⟨yak aJ aI.o.size,by rw[aI.o.cell (p:=⟨g,0,none⟩) aJ xaa];exact HC.o⟩
  by_cases aZ:j=k
  ·subst aZ;have af:=aU.o.1;generalize l.getD j Spn.zero=s at a7 af;have ar:E _:=MZ s wr g n be.o.1 be.o.2;rw[decide_eq_true af]at ar;obtain⟨ba,aP⟩:=a7;clear aQ a8 bi bk af;go_wp2_with fail;refine yaj ar.o ?_;rintro e ag ⟨rfl,ak⟩;have H:E _:=aI.o.trans ak;clear ak ba aP;go_wp2_with fail;go_ret;exact⟨rfl,H.o⟩
  have af:=aU.o.2 j xaa;generalize l.getD j Spn.zero=s at a7 af;have ar:E _:=MZ s wr g n be.o.1 be.o.2;rw[yay xaa]at ar;obtain⟨ba,aP⟩:=a7;clear aQ a8 bi bk af;go_wp2_with fail;refine yaj ar.o ?_;rintro e ag ⟨rfl,ak⟩;have H:E _:=aI.o.trans ak;clear ak ba aP;go_wp2_with fail;go_roundw;exact⟨j+1,by omega,by go_num,H⟩;simp[intOf];omega
theorem Kl{x y}:(rm x y<0)↔x<y:=by grind[rm]
theorem Qu(w lo hi a m c l)(x:Spn)(f:PS w lo hi a m l)(am:m<=1000000)(au:RunsF 0 l):
  Calls prog 113 #[.slice a m c,x.agg,.func (.func 85) #[] #[]] w λe B=>∃(i:Nat) (b:Bool),e=.returned (.tuple #[hA i,.bool b])/\LbS l x.off i/\Kept 0 0 w B:=by
 have bh:=ez 0 0 w x.box;have HF:E _:=f.keep bh yaa;have HL:E (l.length=m):=f.len;have ao:E _:=au;have HK:E _:=bh;have C:E ((w.alloc x.box).cell? ⟨w.heap.size,0,none⟩=some (hA x.off)):=by show _=_;go_simp
 have cH:E ((w.alloc x.box).cell? ⟨w.heap.size,1,none⟩=some (hA x.len)):=by show _=_;go_simp
 have ay:E (w.heap.size<(w.alloc x.box).heap.size):=by show _<_;simp
 clear f au bh;go_enter func113,ntmps113;go_wp2_with fail;generalize w.alloc x.box=aA at HF HK C cH ay⊢;generalize w.heap.size=X at C cH ay⊢;go_loopw [9,10] (λi j W=>∃p q:Nat,p<=q/\q<=m/\i=hA p/\j=hA q/\E (∀k,k<p->(l.getD k Spn.zero).off<x.off)/\E (∀k,q<=k->k<m->x.off<=(l.getD k Spn.zero).off)/\E (Kept 0 0 aA W)) (λi j _=>(intOf j).toNat-(intOf i).toNat)
 case atStart=>exact⟨0,m,yae,yad,rfl,rfl,λk O=>by omega,λk F N=>by omega,Kept.refl _ _ _⟩
 case round=>
  obtain⟨p,q,ae,af,rfl,rfl,aq,o,aI⟩:=hrel;have bz:wr.cell? ⟨X,0,none⟩=some (hA x.off):=by rw[aI.o.cell (p:=⟨X,0,none⟩) ay.o xaa];exact C.o
  have bo:wr.cell? ⟨X,1,none⟩=some (hA x.len):=by rw[aI.o.cell (p:=⟨X,1,none⟩) ay.o xaa];exact cH.o
  by_cases aG:p<q
  ·obtain⟨h,cj⟩:∃h,h=(p+q)/2:=⟨_,rfl⟩
   have P:h<m:=xaa;have S:p<=h/\h<q:=xaa;rcases (HF.o.keep aI.o yaa).at_ with z|⟨az,off,rfl,aQ,a8,aa,bk⟩
   ·omega
   have a7:=bk h P;have R:((p:Int)+q)/2=(h:Int):=xaa
   have K:E (∀k,k<h->(l.getD k Spn.zero).off<(l.getD h Spn.zero).off):=λk O=>by
    have:=xv ao.o O (hL HL.o P)
    have bu:=RunsF.mem ao.o (l.getD k Spn.zero) (by rw[yai,yam (hN HL.o)];exact List.getElem_mem _)
    omega
   have r:E (∀k,h<k->k<m->(l.getD h Spn.zero).off<(l.getD k Spn.zero).off):=λk O G=>by
    have:=xv ao.o O (hL HL.o G)
    have bu:=RunsF.mem ao.o (l.getD h Spn.zero) (by rw[yai,yam (hN HL.o)];exact List.getElem_mem _)
    omega
   obtain⟨s,Q⟩:∃s,s=l.getD h Spn.zero:=⟨_,rfl⟩
   rw[<-Q]at a7 K r;have ai:E (l.getD h Spn.zero=s):=Q.symm;clear Q;obtain⟨ba,aP⟩:=a7;have HC:E (∀W,_):=λW=>MY s x W;have I:E (rm s.off x.off<0↔s.off<x.off):=Kl;generalize rm s.off x.off=z at HC I;have cM:0<=(h:Int):=xaa;have ce:(h:Int)<m:=xaa;clear aQ a8 bk cj;have y:E (az<wr.heap.size):=aa;have aw:E (X<wr.heap.size):=yak ay.o aI.o.size;have ab:=S.1;have ad:=S.2;go_upto_region 5 with fail;go_cut [31] from 24 to 31 (λv cd=>v=.bool (decide (s.off<x.off))/\E (Kept 0 0 wr cd))
   case first=>
    go_region_with (first|(go_at_call 85;refine yaj (HC.o _) ?_;rintro e ag ⟨rfl,ak⟩;have bB:E _:=(eG wr).trans ak;clear ak)|fail)
    all_goals
     go_wp2_with fail
     go_meet
     exact⟨congrArg Value.bool (decide_eq_decide.2 I.o),bB⟩
   case rest=>
    obtain⟨rfl,bB⟩:=hcut;clear bz bo ba aP;rcases Decidable.em (s.off<x.off) with Z|Z
    ·have e:decide (s.off<x.off)=true:=decide_eq_true Z;rw[e]
     have R1:E (∀k,k<h+1->(l.getD k Spn.zero).off<x.off):=λk O=>by
      by_cases e:k=h
      ·subst e;rw[ai.o];exact Z
      ·have:=K.o k xaa;omega
     go_wp2_with fail;go_roundw;exact⟨h+1,q,by omega,af,by go_num,rfl,R1,o,aI.o.trans bB.o⟩;simp[intOf];omega
    have e:decide (s.off<x.off)=false:=yay Z;rw[e]
    have R1:E (∀k,h<=k->k<m->x.off<=(l.getD k Spn.zero).off):=λk O G=>by
     by_cases e:k=h
     ·subst e;rw[ai.o];omega
     ·have:=r.o k xaa G;omega
    go_wp2_with fail;go_roundw;exact⟨p,h,by omega,by omega,rfl,rfl,aq,R1,aI.o.trans bB.o⟩;simp[intOf];omega
  obtain rfl:p=q:=xaa;have J:E (LbS l x.off p):=⟨hL HL.o af,aq.o,λk F N=>o.o k F (hM HL.o N)⟩
  have Y:E (Kept 0 0 w wr):=HK.o.trans aI.o;by_cases cQ:p<m
  ·rcases (HF.o.keep aI.o yaa).at_ with z|⟨az,off,rfl,aQ,a8,bi,bk⟩
   ·omega
   have a7:=bk p cQ;generalize l.getD p Spn.zero=s at a7;obtain⟨ba,aP⟩:=a7;have HC:E (∀W,_):=λW=>MY s x W;generalize rm s.off x.off=z at HC;have cM:0<=(p:Int):=xaa;have ce:(p:Int)<m:=xaa;have y:E (az<wr.heap.size):=bi;have aw:E (X<wr.heap.size):=yak ay.o aI.o.size;clear aQ a8 bi bk aq o;go_wp2_with fail
   go_region_held3 (λB=>B.cell? ⟨az,off+p*2,none⟩=some (hA s.off)/\B.cell? ⟨az,off+p*2+1,none⟩=some (hA s.len)/\B.cell? ⟨X,0,none⟩=some (hA x.off)/\B.cell? ⟨X,1,none⟩=some (hA x.len)) (go_keep)
    (first|(go_at_call 85;refine yaj (HC.o _) ?_;rintro e ag ⟨rfl,u⟩;have ak:=(eG wr).trans u;have bn:ag.cell? ⟨az,off+p*2,none⟩=some (hA s.off):=(by rw[ak.cell (p:=⟨az,off+p*2,none⟩) y.o xaa];exact ba);have aX:ag.cell? ⟨az,off+p*2+1,none⟩=some (hA s.len):=(by rw[ak.cell (p:=⟨az,off+p*2+1,none⟩) y.o xaa];exact aP);have bb:ag.cell? ⟨X,0,none⟩=some (hA x.off):=(by rw[ak.cell (p:=⟨X,0,none⟩) aw.o xaa];exact bz);have co:ag.cell? ⟨X,1,none⟩=some (hA x.len):=(by rw[ak.cell (p:=⟨X,1,none⟩) aw.o xaa];exact bo)))
   all_goals
    have H:E (Kept 0 0 w ag):=Y.o.trans ak
    clear bn aX bb co ak u ba aP bz bo
    go_wp2_with fail
    refine yaz (v:=.tuple #[hA p,.bool (z==0)]) (by simp[results,results113,go_sem]) rfl ⟨p,_,rfl,J.o,H.o⟩
  have U:¬((p:Int)<m):=xaa;clear aq o;go_wp2_with fail;first|(go_region_with (fail))|fail
  all_goals
   go_wp2_with fail
   refine yaz (v:=.tuple #[hA p,.bool false]) (by simp[results,results113,go_sem]) rfl ⟨p,_,rfl,J.o,Y.o.trans (eG wr)⟩
theorem lB(w)(p:Spn)(h:-1000000<=p.off+p.len/\p.off+p.len<=1000000):
  Calls prog 29 #[p.agg] w λe B=>e=.returned (hA (p.off+p.len))/\Kept 0 0 w B:=by
 have i:IntKind.i64.wrap (p.off+p.len)=p.off+p.len:=by rw[IntKind.wrap_i64];omega
 go_enter func29,ntmps29;go_wp2;go_ret;exact⟨rfl,ez _ _ _ _⟩
theorem xz(w)(p:Spn)(c)(F:1<=p.len)(N:p.len<=1000)(h3:0<=c)(a6:c<=1000000):
  Calls prog 66 #[p.agg,hA c] w λe B=>e=.returned (.bool (mI p.off p.len c))/\Kept 0 0 w B:=by
 have i:IntKind.i64.wrap (c-p.len)=c-p.len:=by rw[IntKind.wrap_i64];omega
 by_cases u:0<=p.off
 ·by_cases u2:p.off<=c-p.len
  ·rw[show mI _ _ c=true from decide_eq_true ⟨u,u2⟩];exact xfj
  rw[show mI _ _ c=false from yay (λc=>u2 c.2)];have f:=yay u2;exact xfj
 rw[show mI _ _ c=false from yay (λc=>u c.1)];have Y:=yay u;exact xfj
structure BL(w:World)(g n:Nat)(b:Nat->Bool):Prop where
 lt:g<w.heap.size
 at_:∀k,k<n->w.cell? ⟨g,k,none⟩=some (.bool (b k))
 free:∀o,w.frozen? ⟨g,o,none⟩=false
theorem BL.keep{B l h}(f:BL w g n b)(k:Kept l h w B)(aK:g<l\/h<=g\/h<=l):BL B g n b:=
 ⟨yak f.lt k.size,λi hi=>by rw[k.cell f.lt (by show ¬(l<=g/\g<h);omega)];exact f.at_ i hi,λo=>by rw[k.frozen f.lt (by show ¬(l<=g/\g<h);omega)];exact f.free o⟩
theorem BL.congr{G}(f:BL w g n b)(h:∀k,k<n->b k=G k):BL w g n G:=⟨f.lt,λk O=>by rw[<-h k O];exact f.at_ k O,f.free⟩
theorem BL.set(f:BL w g n b)(k)(O:k<n):BL (w.setCell ⟨g,k,none⟩ (.bool true)) g n (λj=>if j=k then true else b j):=by
 refine⟨by simpa using f.lt,λj hj=>?_,λo=>by simp[f.free o]⟩;by_cases e:j=k
 ·subst e;rw[hD rfl];exact fy _ _ _ _ _ (f.at_ j hj)
 rw[hC e,eQ _ _ _ _ _ _ (.inr (λc=>e c.symm))];exact f.at_ j hj
theorem Bm(w g off n cap b)(ad:n<=1000)(ah:∀k,k<n->w.cell? ⟨g,off+k,none⟩=some (.bool (b k))):
  Calls prog 95 #[.slice (some ⟨g,off,none⟩) n cap,.bool false] w λe B=>(∃r:Int,e=.returned (hA r)/\decide (0<=r)=!((List.range n).all b))/\w=B:=by
 have HC:E _:=ah;clear ah;go_enter func95,ntmps95;go_wp2_with fail;go_loop [8] (λi=>∃k:Nat,k<=n/\i=hA k/\E ((List.range k).all b=true)) (λi=>n-(intOf i).toNat)
 case atStart=>exact⟨0,yae,rfl,rfl⟩
 case round=>
  obtain⟨k,O,rfl,a2⟩:=hrel;by_cases aG:k<n
  ·have c:=HC.o k aG;cases t:b k
   ·have H:E _:=kz aG t;rw[t]at c;clear a2;go_wp2;go_ret;exact⟨⟨k,rfl,by rw[H.o];simp⟩,rfl⟩
   have H:E _:=jh a2.o t;rw[t]at c;exact xeh
  have H:E ((List.range n).all b=true):=by
   have:=a2.o;rw[show k=n by omega]at this;exact this
  clear a2;go_wp2;go_ret;exact⟨⟨_,rfl,by rw[H.o];decide⟩,rfl⟩
theorem uO(w g off n cap b)(ad:n<=1000)(ah:∀k,k<n->w.cell? ⟨g,off+k,none⟩=some (.bool (b k))):
  Calls prog 68 #[.slice (some ⟨g,off,none⟩) n cap,.bool false] w λe B=>e=.returned (.bool (!((List.range n).all b)))/\w=B:=by
 have ar:E _:=Bm w g _ n cap b ad ah;clear ah;go_enter func68,ntmps68;exact xfz
end
section
theorem vy(vs i):∀m,ie (vs.map cv) i m=ie vs i m
 |0=>rfl
 |m+1=>by rw[ie,ie,vy _ i m,mg];rfl
theorem Km(vs outs ps i n a j):nF (vs.map cv) outs ps i n a j=nF vs outs ps i n a j:=by
 unfold nF iA;rw[vy,List.length_map,mg];rfl
theorem xA(vs outs):∀i,eW (vs.map cv) outs i=eW vs outs i
 |0=>rfl
 |i+1=>by
  have e:∀ps,jA (vs.map cv) outs ps=jA vs outs ps:=λps=>by
   grind[jA,Km]
  rw[eW,eW,xA _ _ i]
  unfold rg
  rw[mg,e];rfl
theorem rn(vs ps):∀i,fg (vs.map cv) ps i=fg vs ps i
 |0=>rfl
 |i+1=>by rw[fg,fg,rn _ _ i,mg];rfl
def plD(own:Bool)(vs:List Vl)(outs:List Int):List Int:=if own=true then (List.range vs.length).map (jW vs)else eW vs outs vs.length
theorem NR{ins vs outs}(h:okG ins vs outs=true)(own):∀j,j<vs.length->0<=(plD own vs outs).getD j 0/\(plD own vs outs).getD j 0+(vs.getD j hF).len<=50000:=λj hj=>by
 obtain⟨_,_,aO,_,ah⟩:=gU h
 have af:∀k,k<vs.length->_:=λk O=>(fU (aO k O)).1
 have au:jW vs vs.length<=50000:=by grind[jm]
 have F:=gY af (show j+1<=vs.length from hj) yad
 have al:=gY af (Nat.zero_le j) xaa
 have b9:jW vs 0=0:=rfl
 unfold plD
 cases own
 ·rw[hC xac]
  have:=kZ (outs:=outs) af au _ yad j hj
  omega
 ·rw[hD rfl,yai,List.getElem?_map,List.getElem?_range hj]
  grind[jW]
theorem zC{vs ps n}(h:∀j,j<n->0<=ps.getD j 0/\ps.getD j 0+(vs.getD j hF).len<=50000):∀k,k<=n->0<=fg vs ps k/\fg vs ps k<=50000
 |0,_=>by simp[fg]
 |k+1,O=>by
  have:=zC h k xaa
  grind[fg]
