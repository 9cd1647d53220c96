import Derived.Test.YtiacbhjphaldlaaGreatDoorP10
namespace Go.Proofs.Z
variable{bC la u}
variable{Zp:Prop}
open Tryz Go.RowKit Flt
set_option maxRecDepth 1000000
set_option maxHeartbeats 0
section
attribute[local go_sem] dI dG dF
variable{P:Nat}{us:List Vl}{R' R:Option Nat}
structure Bw(us:List Vl)(c:Int):Prop where
 l:us.length<=1000000
 c0:-1000000000<=c
 c1:c<=1000000000
theorem Bnd.w{c}(b:Bnd us c 0):Bw us c:=⟨ih b.l,ih b.c0,ih b.c1⟩
theorem At.stepC{w D B v}(a:At w B 0 v)(s:Stp P R w R' D)(ax:B<w.heap.size)(z:B≠P)(J:R≠some B):At D B 0 v:=by
 have e:∀o,_:=λo=>s.chg.cell (p:=⟨B,o,none⟩) ax (by grind);exact⟨it e a.c0,it e a.c1,it e a.c2,it e a.c3,it e a.c4,it e a.c5⟩
structure Cap(W:World)(P:Nat)(R:Option Nat)(b:Nat)(u:Value):Prop where
 at_:W.cell? ⟨b,0,none⟩=some u
 lt:b<W.heap.size
 np:b≠P
 nr:R≠some b
theorem Cap.step{W A b}(f:Cap W P R b u)(s:Stp P R W R' A):Cap A P R' b u:=
 ⟨by rw[s.chg.cell f.lt (by rintro (c|c);exact f.np c;exact f.nr c)];exact f.at_,yaj f.lt s.chg.size,f.np,by
  obtain e|⟨r,e,ah⟩:=s.row
  ·rw[e];exact f.nr
  ·rw[e]
   intro c
   cases c
   have:=f.lt
   omega⟩
theorem KG(w P u1 u3 us c base R Y)(h:BS w P u1 u3 us c base R Y)(B:Bw us c)(d m)(l:w.cell? ⟨m,0,none⟩=some (ge P))(t n)(b:w.cell? ⟨t,0,none⟩=some (h0 n))(bH:-1000<=n)(n1:n<=1000):
  Calls prog 214 #[h0 d,ge m,ge t] w λe D=>Bd w P u1 u3 us c base R ([dL 6 n d 0 0],(us.length:Nat)) e D:=by
 have be:M _:=iW w P c R 6 n d 0 0 h (ih B.l) (ih B.c0) (ih B.c1) xaa xaa;clear h B;go_enter func214,ntmps214;exact xas
theorem dB.qeu(h:Zp:=by
 clear h B;go_enter func215,ntmps215;exact xas):Zp:=h
open dB in
theorem Lr(w P u1 u3 us c base R Y)(h:BS w P u1 u3 us c base R Y)(B:Bw us c)(d){m}(l:w.cell? ⟨m,0,none⟩=some (ge P)){t n}(b:w.cell? ⟨t,0,none⟩=some (h0 n))(bH:-1000<=n)(n1:n<=1000){am v}(T:At w am 0 v):
  Calls prog 215 #[h0 d,ge m,ge t,ge am] w λe D=>Bd w P u1 u3 us c base R ([dL 4 n d v.b 0],(us.length:Nat)) e D:=by
 have be:M _:=iW w P c R 4 n d v.b 0 h (ih B.l) (ih B.c0) (ih B.c1) xaa xaa;exact qet
theorem dC.qeu(h:Zp:=by
 clear h B;go_enter func216,ntmps216;exact xas):Zp:=h
open dC in
theorem Ls(w P u1 u3 us c base R Y)(h:BS w P u1 u3 us c base R Y)(B:Bw us c)(d){m}(l:w.cell? ⟨m,0,none⟩=some (ge P)){t n}(b:w.cell? ⟨t,0,none⟩=some (h0 n))(bH:-1000<=n)(n1:n<=1000){am v}(T:At w am 0 v):
  Calls prog 216 #[h0 d,ge m,ge t,ge am] w λe D=>Bd w P u1 u3 us c base R ([dL 4 n d v.a 0],(us.length:Nat)) e D:=by
 have be:M _:=iW w P c R 4 n d v.a 0 h (ih B.l) (ih B.c0) (ih B.c1) xaa xaa;exact qet
theorem dD.qeu(h:Zp:=by
 clear h B;go_enter func217,ntmps217;exact xas):Zp:=h
open dD in
theorem Lt(w P u1 u3 us c base R Y)(h:BS w P u1 u3 us c base R Y)(B:Bw us c)(d){m}(l:w.cell? ⟨m,0,none⟩=some (ge P)){t n}(b:w.cell? ⟨t,0,none⟩=some (h0 n))(bH:-1000<=n)(n1:n<=1000){am v}(T:At w am 0 v):
  Calls prog 217 #[h0 d,ge m,ge t,ge am] w λe D=>Bd w P u1 u3 us c base R ([dL 5 n d v.b 0],(us.length:Nat)) e D:=by
 have be:M _:=iW w P c R 5 n d v.b 0 h (ih B.l) (ih B.c0) (ih B.c1) xaa xaa;exact qet
theorem On(w P u1 u3 us c base R Y)(h:BS w P u1 u3 us c base R Y)(B:Bw us c)(d){m}(l:w.cell? ⟨m,0,none⟩=some (ge P)){t n}(b:w.cell? ⟨t,0,none⟩=some (h0 n))(bH:-1000<=n)(n1:n<=1000){af i}(f:w.cell? ⟨af,0,none⟩=some (h0 i)):
  Calls prog 219 #[h0 d,ge m,ge t,ge af] w λe D=>Bd w P u1 u3 us c base R ([dL 4 n d i 0],(us.length:Nat)) e D:=by
 have be:M _:=iW w P c R 4 n d i 0 h (ih B.l) (ih B.c0) (ih B.c1) xaa xaa;clear h B;go_enter func219,ntmps219;exact xas
theorem Lu(w P u1 u3 us c base R Y)(h:BS w P u1 u3 us c base R Y)(B:Bw us c)(d){m}(l:w.cell? ⟨m,0,none⟩=some (ge P)):
  Calls prog 231 #[h0 d,ge m] w λe D=>Bd w P u1 u3 us c base R ([dL 9 1 d 0 0],(us.length:Nat)) e D:=by
 have be:M _:=iW w P c R 9 1 d 0 0 h (ih B.l) (ih B.c0) (ih B.c1) xaa xaa;clear h B;go_enter func231,ntmps231;exact xas
theorem dE.qeu(h:Zp:=by
 clear h B;go_enter func233,ntmps233;exact xas):Zp:=h
open dE in
theorem Oo(w P u1 u3 us c base R Y)(h:BS w P u1 u3 us c base R Y)(B:Bw us c)(d){m}(l:w.cell? ⟨m,0,none⟩=some (ge P)){am v}(T:At w am 0 v):
  Calls prog 233 #[h0 d,ge m,ge am] w λe D=>Bd w P u1 u3 us c base R ([dL 11 1 d 0 v.c],(us.length:Nat)) e D:=by
 have be:M _:=iW w P c R 11 1 d 0 v.c h (ih B.l) (ih B.c0) (ih B.c1) xaa xaa;exact qet
theorem Ha(w d):Calls prog 213 #[h0 d] w λe D=>e=.returned (h0 d)/\D=w:=by
 go_enter func213,ntmps213;go_wp2;go_ret;exact⟨rfl,rfl⟩
theorem Stp.kept{w D aA}(s:Stp P R w R' D)(k:Kept 0 0 D aA):Stp P R w R' aA:=s.trans ⟨k.chg,.inl rfl⟩
theorem a.qab(h:Zp:=by
 exact qgt):Zp:=h
theorem a.qeu(h:Zp:=by
 clear h B l b k cP ag bH n1;go_enter func226,ntmps226;exact xbc):Zp:=h
open a in
theorem Lv(w P u1 u3 us c base R Y)(h:BS w P u1 u3 us c base R Y)(B:Bnd us c 0)(d){m}(l:Cap w P R m (ge P)){t n}(b:Cap w P R t (h0 n))(bH:-1000<=n)(n1:n<=1000){am v}(T:At w am 0 v)(k:am<w.heap.size)(cP:am≠P)(ag:R≠some am):
  Calls prog 226 #[h0 d,ge m,ge t,ge am] w λe D=>Bd w P u1 u3 us c base R ([dL 1 n 0 0 0,dL 8 n v.a d (us.length:Nat)],((us.length+1:Nat):Int)) e D:=by
 exact qaa
theorem b.qab(h:Zp:=by
 exact qgt):Zp:=h
theorem b.qeu(h:Zp:=by
 clear h B l b k cP ag bH n1;go_enter func227,ntmps227;exact xbc):Zp:=h
open b in
theorem Lw(w P u1 u3 us c base R Y)(h:BS w P u1 u3 us c base R Y)(B:Bnd us c 0)(d){m}(l:Cap w P R m (ge P)){t n}(b:Cap w P R t (h0 n))(bH:-1000<=n)(n1:n<=1000){am v}(T:At w am 0 v)(k:am<w.heap.size)(cP:am≠P)(ag:R≠some am):
  Calls prog 227 #[h0 d,ge m,ge t,ge am] w λe D=>Bd w P u1 u3 us c base R ([dL 1 n 0 0 0,dL 8 n v.a (us.length:Nat) d],((us.length+1:Nat):Int)) e D:=by
 exact qaa
theorem c.qab(h:Zp:=by
 have aP:=l.at_;have aQ:=b.at_;exact qet):Zp:=h
theorem c.qeu(h:Zp:=by
 clear h B l b bH n1;go_enter func228,ntmps228;exact xax):Zp:=h
open c in
theorem Lx(w P u1 u3 us c base R Y)(h:BS w P u1 u3 us c base R Y)(B:Bnd us c 0)(d){m}(l:Cap w P R m (ge P)){t n}(b:Cap w P R t (h0 n))(bH:-1000<=n)(n1:n<=1000){am v}(T:At w am 0 v):
  Calls prog 228 #[h0 d,ge m,ge t,ge am] w λe D=>Bd w P u1 u3 us c base R ([dL 3 n v.a v.b 0,dL 1 n 0 0 0,dL 8 n (us.length:Nat) d ((us.length+1:Nat):Int)],((us.length+2:Nat):Int)) e D:=by
 exact qaa
theorem d.qab(h:Zp:=by
 have aP:=l.at_;have aQ:=b.at_;exact qet):Zp:=h
theorem d.qeu(h:Zp:=by
 clear h B l b bH n1;go_enter func229,ntmps229;exact xax):Zp:=h
open d in
theorem Ly(w P u1 u3 us c base R Y)(h:BS w P u1 u3 us c base R Y)(B:Bnd us c 0)(d){m}(l:Cap w P R m (ge P)){t n}(b:Cap w P R t (h0 n))(bH:-1000<=n)(n1:n<=1000){am v}(T:At w am 0 v):
  Calls prog 229 #[h0 d,ge m,ge t,ge am] w λe D=>Bd w P u1 u3 us c base R ([dL 3 n v.a v.b 0,dL 1 n 0 0 0,dL 8 n (us.length:Nat) ((us.length+1:Nat):Int) d],((us.length+2:Nat):Int)) e D:=by
 exact qaa
theorem bG.qcb(h:Zp:=by
 go_enter func230,ntmps230;go_wp2_with fail
 go_region_held3 (λD=>D.cell? ⟨m,0,none⟩=some (ge P)/\D.cell? ⟨am,2,none⟩=some (h0 j)) (go_keep) (first
  |(go_at_call 168;refine yai bf.o ?_;rintro e aa ⟨rfl,rfl⟩)
  |(go_at_call 199;refine yai (be.o _ rfl) ?_;rintro e Z ⟨rfl,a,ae,J,az⟩;have ad:Stp P R w a Z:=StQ.trans ⟨a6.o.chg,.inl rfl⟩ az;have bP:M (∃R' a5,BS Z P u1 u3 (us++[dL 10 n d 0 0]) (c+dK [dL 10 n d 0 0]) base R' a5/\Stp P R w R' Z):=⟨a,ae,J,ad⟩;have bK:=(g.o.step ad).at_;obtain⟨bJ,ba,bu,co,bs,aZ⟩:=o.o _ _ ad;simp only[Nat.zero_add]at ba bu co bs aZ;rw[q]at bu;clear ad J az))
 all_goals
  go_wp2
  go_ret
  exact⟨rfl,bP.o⟩):Zp:=h
open bG in
theorem Oq(w P u1 u3 us c base R Y)(h:BS w P u1 u3 us c base R Y)(B:Bnd us c 0)(d){m}(l:Cap w P R m (ge P)){am v}(T:At w am 0 v)(k:am<w.heap.size)(cP:am≠P)(ag:R≠some am)(j:Nat)(q:v.a=(j:Int))(aK:j<us.length){n}(b:(us.getD j h7).len=n)(bH:-1000<=n)(n1:n<=1000):
  Calls prog 230 #[h0 d,ge m,ge am] w λe D=>Bd w P u1 u3 us c base R ([dL 10 n d 0 0],(us.length:Nat)) e D:=by
 have be:M _:=λaa (e:aa=w.drew)=>iW _ P c R 10 n d 0 0 (BS.keep h (dH w)) (ih B.l) (ih B.c0) (ih B.c1) xaa xaa;exact qca
theorem bH.qcb(h:Zp:=by
 go_enter func232,ntmps232;go_wp2_with fail
 go_region_held3 (λD=>D.cell? ⟨m,0,none⟩=some (ge P)/\D.cell? ⟨am,2,none⟩=some (h0 j)/\D.cell? ⟨am,4,none⟩=some (h0 v.c)) (go_keep) (first
  |(go_at_call 168;refine yai bf.o ?_;rintro e aa ⟨rfl,rfl⟩)
  |(go_at_call 199;refine yai (be.o _ rfl) ?_;rintro e Z ⟨rfl,a,ae,J,az⟩;have ad:Stp P R w a Z:=StQ.trans ⟨a6.o.chg,.inl rfl⟩ az;have bP:M (∃R' a5,BS Z P u1 u3 (us++[dL 12 n d 0 v.c]) (c+dK [dL 12 n d 0 v.c]) base R' a5/\Stp P R w R' Z):=⟨a,ae,J,ad⟩;have bK:=(g.o.step ad).at_;obtain⟨bJ,ba,bu,co,bs,aZ⟩:=o.o _ _ ad;simp only[Nat.zero_add]at ba bu co bs aZ;rw[q]at bu;clear ad J az))
 all_goals
  go_wp2
  go_ret
  exact⟨rfl,bP.o⟩):Zp:=h
open bH in
theorem Lz(w P u1 u3 us c base R Y)(h:BS w P u1 u3 us c base R Y)(B:Bnd us c 0)(d){m}(l:Cap w P R m (ge P)){am v}(T:At w am 0 v)(k:am<w.heap.size)(cP:am≠P)(ag:R≠some am)(j:Nat)(q:v.a=(j:Int))(aK:j<us.length){n}(b:(us.getD j h7).len=n)(bH:-1000<=n)(n1:n<=1000):
  Calls prog 232 #[h0 d,ge m,ge am] w λe D=>Bd w P u1 u3 us c base R ([dL 12 n d 0 v.c],(us.length:Nat)) e D:=by
 have be:M _:=λaa (e:aa=w.drew)=>iW _ P c R 12 n d 0 v.c (BS.keep h (dH w)) (ih B.l) (ih B.c0) (ih B.c1) xaa xaa;exact qca
theorem DH{w aa u1 u3 a c base bm Y}(h:BS aa P u1 u3 (us++a) (c+dK a) base bm Y)(s:Stp P R w bm aa)(B:Bw (us++a) (c+dK a)){d}(m)(l:aa.cell? ⟨m,0,none⟩=some (ge P))(t n)(b:aa.cell? ⟨t,0,none⟩=some (h0 n))(bH:-1000<=n)(n1:n<=1000):
  Calls prog 214 #[h0 d,ge m,ge t] aa λe D=>Bd w P u1 u3 us c base R (a++[dL 6 n d 0 0],((us.length+a.length:Nat):Int)) e D:=
 (KG aa P u1 u3 (us++a) (c+dK a) base bm Y h B d m l t n b bH n1).mono λe D I=>by
  rw[yak]at I
  exact Bd.after s I
theorem e.qab(h:Zp:=by
 have y:=Q bD;have x:=Q B;have o:M (∀D R',Stp P R w R' D->_):=λD R' s=>T.stepC s k cP ag;have aP:=l.at_;have aQ:=b.at_;have aU:=f.at_;clear h B l b k cP ag bH n1 f bD T;go_enter func218,ntmps218;go_wp2_with fail;refine yai (be.o aw.o (StQ.refl _ _ _) xac (by simp[dK]) (by simp[dK]) 4 _ _ _) ?_;rintro e aa ⟨rfl,bm,H,z,ak⟩;have aK:=Q z;have V:=Q ak;have bG:=(g.o.step ak).at_;have bB:=(j.o.step ak).at_;have bQ:=(y.o.step ak).at_;obtain⟨bh,aH,aN,aM,aS,aC⟩:=o.o _ _ ak;simp only[Nat.zero_add]at aH aN aM aS aC;clear z ak aP aQ aU;go_wp2_with fail
 go_region_held3 (λD=>D.cell? ⟨m,0,none⟩=some (ge P)/\D.cell? ⟨t,0,none⟩=some (h0 n)/\D.cell? ⟨G,0,none⟩=some (.func (.func 214) #[] #[ge m,ge t])/\D.cell? ⟨am,3,none⟩=some (h0 v.b)) (go_keep) (first
  |(go_at_call 199;refine yai (be.o (BS.keep aK.o (dH aa)) (Stp.kept V.o (dH aa)) xac (by simp[dK];have:=bc.o;omega) (by simp[dK];have:=bc.o;omega) 5 _ _ _) ?_;rintro e Z ⟨rfl,bP,ae,J,az⟩;have aT:=Q J;have K:=Q az;have bK:=(g.o.step az).at_;have a9:=(j.o.step az).at_;have bj:=(y.o.step az).at_;obtain⟨bJ,ba,bu,co,bs,aZ⟩:=o.o _ _ az;simp only[Nat.zero_add]at ba bu co bs aZ;clear J az)
  |(go_at_call 214;refine yai (DH aT.o K.o ⟨by have:=x.o.l;simp;omega,by have:=x.o.c0;have:=bc.o;simp[dK];omega,by have:=x.o.c1;have:=bc.o;simp[dK];omega⟩ m bK t n a9 bc.o.1 bc.o.2) ?_;rintro e ao ⟨rfl,au⟩;have R3:=Q au;obtain⟨_,_,_,ad⟩:=au;have f5:=(g.o.step ad).at_;have f6:=(j.o.step ad).at_;have f7:=(y.o.step ad).at_;obtain⟨L,fv,A,C,F,I⟩:=o.o _ _ ad;simp only[Nat.zero_add]at fv A C F I;clear ad))
 all_goals
  go_wp2
  go_ret
  exact⟨rfl,R3.o⟩):Zp:=h
open e in
theorem LA(w P u1 u3 us c base R Y)(h:BS w P u1 u3 us c base R Y)(B:Bnd us c 0)(d){m}(l:Cap w P R m (ge P)){t n}(b:Cap w P R t (h0 n))(bH:-1000<=n)(n1:n<=1000){af i}(f:Cap w P R af (h0 i)){G}(bD:Cap w P R G (.func (.func 214) #[] #[ge m,ge t])){am v}(T:At w am 0 v)(k:am<w.heap.size)(cP:am≠P)(ag:R≠some am):
  Calls prog 218 #[h0 d,ge m,ge t,ge af,ge G,ge am] w λe D=>Bd w P u1 u3 us c base R ([dL 4 n d i 0,dL 5 n (us.length:Nat) v.b 0,dL 6 n ((us.length+1:Nat):Int) 0 0],((us.length+2:Nat):Int)) e D:=by
 exact qaa
end
section
variable{lo hi C P T b m t am af j:Nat}{aq:World}{vs0:List Vl}{R:Option Nat}{n i:Int}{f:Int->Nat->List Vl×Int}{v:Vl}
theorem Same.trans{W0 W}(a:Same lo hi W0 aq)(b:Same C T aq W)(z:C<=lo)(J:hi<=T):Same lo hi W0 W:=
 ⟨a.le,yan a.size b.size,λx l h=>(b.blk x xaa xaa).trans (a.blk x l h)⟩
theorem InR.mono(f:InR C T P R)(z:C<=lo)(J:hi<=T):InR lo hi P R:=
 ⟨ih f.p,λb I=>ih (f.r b I)⟩
theorem PC.mono{W0}(h:PC W0 lo hi P vs0 bC f)(s:Same lo hi W0 aq)(z:C<=lo)(J:hi<=T):PC aq C T P vs0 bC f:=by
 obtain⟨N,aC,e,bl,aj⟩:=h;exact⟨N,_,e,bl,λW u1 u3 us c base R Y d ai ah I aB V=>aj W _ _ _ c _ R _ d (s.trans ai z J) (ah.mono z J) I aB V⟩
theorem PC.cast{W0 c}(h:PC W0 lo hi P vs0 bC f)(e:f=c):PC W0 lo hi P vs0 bC c:=e ▸ h
structure Bx(W0:World)(lo hi b:Nat)(u:Value):Prop where
 lo_:lo<=b
 hi_:b<hi
 at_:W0.cell? ⟨b,0,none⟩=some u
theorem Bx.cap{W0 W}(x:Bx W0 lo hi b u)(s:Same lo hi W0 W)(r:InR lo hi P R):Cap W P R b u:=
 ⟨by rw[s.cell x.lo_ x.hi_];exact x.at_,by have:=x.hi_;have:=s.le;have:=s.size;omega,ip x.lo_ r.p,λe=>by have:=r.r b e;have:=x.lo_;have:=x.hi_;omega⟩
structure Vx(W0:World)(lo hi b:Nat)(v:Vl):Prop where
 lo_:lo<=b
 hi_:b<hi
 at_:At W0 b 0 v
theorem Vx.at'{W0 W}(x:Vx W0 lo hi b v)(s:Same lo hi W0 W):At W b 0 v:=by
 have e:∀o,W.cell? ⟨b,o,_⟩=W0.cell? _:=λo=>s.cell x.lo_ x.hi_;obtain⟨c0,c1,c2,c3,c4,c5⟩:=x.at_;exact⟨by grind,by grind,by grind,by grind,by grind,by grind⟩
theorem Vx.lt{W0 W}(x:Vx W0 lo hi b v)(s:Same lo hi W0 W):b<W.heap.size:=by have:=x.hi_;have:=s.le;have:=s.size;omega
theorem Vx.np{W0}(x:Vx W0 lo hi b v)(r:InR lo hi P R):b≠P:=ip x.lo_ r.p
theorem Vx.nr{W0}(x:Vx W0 lo hi b v)(r:InR lo hi P R):R≠some b:=λe=>by have:=r.r b e;have:=x.lo_;have:=x.hi_;omega
theorem wY(W0 lo hi P vs0):PC W0 lo hi P vs0 (.func (.func 213) #[] #[]) (λd _=>([],d)):=
 ⟨_,_,rfl,enters_of func213 (by kernel_rfl) rfl,λW u1 u3 us c base R Y d _ _ I _ _=>(Ha W d).mono λe D ⟨z,J⟩=>by subst z J;exact Bd.none I d⟩
theorem DI{W0}(I:Bx W0 lo hi m (ge P))(V:Bx W0 lo hi t (h0 n))(bH:-1000<=n)(n1:n<=1000):PC W0 lo hi P vs0 (.func (.func 214) #[] #[ge m,ge t]) (λd N=>([dL 6 n d 0 0],N)):=
 ⟨_,_,rfl,enters_of func214 (by kernel_rfl) rfl,λW u1 u3 us c base R Y d s r b _ B=>KG W P u1 u3 us c base R Y b B.w d _ (I.cap s r).at_ _ _ (V.cap s r).at_ bH n1⟩
theorem Hb{W0}(I:Bx W0 lo hi m (ge P))(V:Bx W0 lo hi t (h0 n))(bH:-1000<=n)(n1:n<=1000)(aD:Vx W0 lo hi am v):PC W0 lo hi P vs0 (.func (.func 215) #[] #[ge m,ge t,ge am]) (λd N=>([dL 4 n d v.b 0],N)):=
 ⟨_,_,rfl,enters_of func215 (by kernel_rfl) rfl,λW u1 u3 us c base R Y d s r b _ B=>Lr W P u1 u3 us c base R Y b B.w d (I.cap s r).at_ (V.cap s r).at_ bH n1 (aD.at' s)⟩
theorem Hc{W0}(I:Bx W0 lo hi m (ge P))(V:Bx W0 lo hi t (h0 n))(bH:-1000<=n)(n1:n<=1000)(aD:Vx W0 lo hi am v):PC W0 lo hi P vs0 (.func (.func 216) #[] #[ge m,ge t,ge am]) (λd N=>([dL 4 n d v.a 0],N)):=
 ⟨_,_,rfl,enters_of func216 (by kernel_rfl) rfl,λW u1 u3 us c base R Y d s r b _ B=>Ls W P u1 u3 us c base R Y b B.w d (I.cap s r).at_ (V.cap s r).at_ bH n1 (aD.at' s)⟩
theorem Hd{W0}(I:Bx W0 lo hi m (ge P))(V:Bx W0 lo hi t (h0 n))(bH:-1000<=n)(n1:n<=1000)(aD:Vx W0 lo hi am v):PC W0 lo hi P vs0 (.func (.func 217) #[] #[ge m,ge t,ge am]) (λd N=>([dL 5 n d v.b 0],N)):=
 ⟨_,_,rfl,enters_of func217 (by kernel_rfl) rfl,λW u1 u3 us c base R Y d s r b _ B=>Lt W P u1 u3 us c base R Y b B.w d (I.cap s r).at_ (V.cap s r).at_ bH n1 (aD.at' s)⟩
theorem He{W0}(I:Bx W0 lo hi m (ge P))(V:Bx W0 lo hi t (h0 n))(bH:-1000<=n)(n1:n<=1000)(T:Bx W0 lo hi af (h0 i)){G}(av:Bx W0 lo hi G (.func (.func 214) #[] #[ge m,ge t]))(aD:Vx W0 lo hi am v):PC W0 lo hi P vs0 (.func (.func 218) #[] #[ge m,ge t,ge af,ge G,ge am]) (λd N=>([dL 4 n d i 0,dL 5 n N v.b 0,dL 6 n ((N+1:Nat):Int) 0 0],((N+2:Nat):Int))):=
 ⟨_,_,rfl,enters_of func218 (by kernel_rfl) rfl,λW u1 u3 us c base R Y d s r b _ B=>LA W P u1 u3 us c base R Y b B d (I.cap s r) (V.cap s r) bH n1 (T.cap s r) (av.cap s r) (aD.at' s) (aD.lt s) (aD.np r) (aD.nr r)⟩
theorem LB{W0}(I:Bx W0 lo hi m (ge P))(V:Bx W0 lo hi t (h0 n))(bH:-1000<=n)(n1:n<=1000)(T:Bx W0 lo hi af (h0 i)):PC W0 lo hi P vs0 (.func (.func 219) #[] #[ge m,ge t,ge af]) (λd N=>([dL 4 n d i 0],N)):=
 ⟨_,_,rfl,enters_of func219 (by kernel_rfl) rfl,λW u1 u3 us c base R Y d s r b _ B=>On W P u1 u3 us c base R Y b B.w d (I.cap s r).at_ (V.cap s r).at_ bH n1 (T.cap s r).at_⟩
theorem Hf{W0}(I:Bx W0 lo hi m (ge P))(V:Bx W0 lo hi t (h0 n))(bH:-1000<=n)(n1:n<=1000)(aD:Vx W0 lo hi am v):PC W0 lo hi P vs0 (.func (.func 226) #[] #[ge m,ge t,ge am]) (λd N=>([dL 1 n 0 0 0,dL 8 n v.a d N],((N+1:Nat):Int))):=
 ⟨_,_,rfl,enters_of func226 (by kernel_rfl) rfl,λW u1 u3 us c base R Y d s r b _ B=>Lv W P u1 u3 us c base R Y b B d (I.cap s r) (V.cap s r) bH n1 (aD.at' s) (aD.lt s) (aD.np r) (aD.nr r)⟩
theorem Hg{W0}(I:Bx W0 lo hi m (ge P))(V:Bx W0 lo hi t (h0 n))(bH:-1000<=n)(n1:n<=1000)(aD:Vx W0 lo hi am v):PC W0 lo hi P vs0 (.func (.func 227) #[] #[ge m,ge t,ge am]) (λd N=>([dL 1 n 0 0 0,dL 8 n v.a N d],((N+1:Nat):Int))):=
 ⟨_,_,rfl,enters_of func227 (by kernel_rfl) rfl,λW u1 u3 us c base R Y d s r b _ B=>Lw W P u1 u3 us c base R Y b B d (I.cap s r) (V.cap s r) bH n1 (aD.at' s) (aD.lt s) (aD.np r) (aD.nr r)⟩
theorem Hh{W0}(I:Bx W0 lo hi m (ge P))(V:Bx W0 lo hi t (h0 n))(bH:-1000<=n)(n1:n<=1000)(aD:Vx W0 lo hi am v):PC W0 lo hi P vs0 (.func (.func 228) #[] #[ge m,ge t,ge am]) (λd N=>([dL 3 n v.a v.b 0,dL 1 n 0 0 0,dL 8 n N d ((N+1:Nat):Int)],((N+2:Nat):Int))):=
 ⟨_,_,rfl,enters_of func228 (by kernel_rfl) rfl,λW u1 u3 us c base R Y d s r b _ B=>Lx W P u1 u3 us c base R Y b B d (I.cap s r) (V.cap s r) bH n1 (aD.at' s)⟩
theorem Hi{W0}(I:Bx W0 lo hi m (ge P))(V:Bx W0 lo hi t (h0 n))(bH:-1000<=n)(n1:n<=1000)(aD:Vx W0 lo hi am v):PC W0 lo hi P vs0 (.func (.func 229) #[] #[ge m,ge t,ge am]) (λd N=>([dL 3 n v.a v.b 0,dL 1 n 0 0 0,dL 8 n N ((N+1:Nat):Int) d],((N+2:Nat):Int))):=
 ⟨_,_,rfl,enters_of func229 (by kernel_rfl) rfl,λW u1 u3 us c base R Y d s r b _ B=>Ly W P u1 u3 us c base R Y b B d (I.cap s r) (V.cap s r) bH n1 (aD.at' s)⟩
theorem LC{W0}(I:Bx W0 lo hi m (ge P))(aD:Vx W0 lo hi am v)(q:v.a=(j:Int))(aK:j<vs0.length)(bH:1<=(vs0.getD j h7).len)(n1:(vs0.getD j h7).len<=1000):PC W0 lo hi P vs0 (.func (.func 230) #[] #[ge m,ge am]) (λd N=>([dL 10 (vs0.getD j h7).len d 0 0],N)):=
 ⟨_,_,rfl,enters_of func230 (by kernel_rfl) rfl,λW u1 u3 us c base R Y d s r b p B=>Oq W P u1 u3 us c base R Y b B d (I.cap s r) (aD.at' s) (aD.lt s) (aD.np r) (aD.nr r) j q (p.at_ aK).2 (by rw[(p.at_ aK).1]) xaa xaa⟩
theorem Hj{W0}(I:Bx W0 lo hi m (ge P)):PC W0 lo hi P vs0 (.func (.func 231) #[] #[ge m]) (λd N=>([dL 9 1 d 0 0],N)):=
 ⟨_,_,rfl,enters_of func231 (by kernel_rfl) rfl,λW u1 u3 us c base R Y d s r b _ B=>Lu W P u1 u3 us c base R Y b B.w d (I.cap s r).at_⟩
theorem Hk{W0}(I:Bx W0 lo hi m (ge P))(aD:Vx W0 lo hi am v)(q:v.a=(j:Int))(aK:j<vs0.length)(bH:1<=(vs0.getD j h7).len)(n1:(vs0.getD j h7).len<=1000):PC W0 lo hi P vs0 (.func (.func 232) #[] #[ge m,ge am]) (λd N=>([dL 12 (vs0.getD j h7).len d 0 v.c],N)):=
 ⟨_,_,rfl,enters_of func232 (by kernel_rfl) rfl,λW u1 u3 us c base R Y d s r b p B=>Lz W P u1 u3 us c base R Y b B d (I.cap s r) (aD.at' s) (aD.lt s) (aD.np r) (aD.nr r) j q (p.at_ aK).2 (by rw[(p.at_ aK).1]) xaa xaa⟩
theorem LD{W0}(I:Bx W0 lo hi m (ge P))(aD:Vx W0 lo hi am v):PC W0 lo hi P vs0 (.func (.func 233) #[] #[ge m,ge am]) (λd N=>([dL 11 1 d 0 v.c],N)):=
 ⟨_,_,rfl,enters_of func233 (by kernel_rfl) rfl,λW u1 u3 us c base R Y d s r b _ B=>Oo W P u1 u3 us c base R Y b B.w d (I.cap s r).at_ (aD.at' s)⟩
structure Pts(W0:World)(lo hi P:Nat)(vs0:List Vl)(i:Int)(v:Vl)(la:Int)(a:Option Addr)(fv:Nat->Value):Prop where
 at_:∀k,k<cnt v.op->∃g,a=some ⟨g,0,none⟩/\lo<=g/\g<hi/\W0.cell? ⟨g,k,none⟩=some (fv k)
 pc:∀k,k<cnt v.op->i8 v k=true->PC W0 lo hi P vs0 (fv k) (λd N=>iR i v la k d N)
 nil:∀k,k<cnt v.op->i8 v k=false->fv k=.nilFunc
theorem Pts.mono{W0 a}(f:Pts W0 lo hi P vs0 i v la a bC)(s:Same lo hi W0 aq)(z:C<=lo)(J:hi<=T):Pts aq C T P vs0 i v la a bC:=
 ⟨λk H=>by
  obtain⟨g,e,a1,a2,a3⟩:=f.at_ k H
  exact⟨g,e,by omega,by omega,by rw[s.cell a1 a2];exact a3⟩,λk H I=>(f.pc k H I).mono s z J,f.nil⟩
def PtO(w:World)(P:Nat)(vs0:List Vl)(i:Int)(v:Vl)(la:Int)(e:Ending)(w':World):Prop:=
 ∃a m c fv,e=.returned (.slice a m c)/\cnt v.op<=m/\Pts w' w.heap.size w'.heap.size P vs0 i v la a fv/\Kept 0 0 w w'
end
section
attribute[local go_sem] dI dG dF
variable{w aq ao:World}{lo P hi C T b:Nat}{vs0:List Vl}{v:Vl}
theorem Aq{W0}(x:Bx W0 lo hi b u)(k:Kept 0 0 W0 aq)(h:hi<=W0.heap.size)(z:C<=lo)(J:hi<=T):Bx aq C T b u:=
 ⟨ih x.lo_,ih x.hi_,by rw[k.cell (by have:=x.hi_;grind) xaa];exact x.at_⟩
theorem Ar{W0}(x:Vx W0 lo hi b v)(k:Kept 0 0 W0 aq)(h:hi<=W0.heap.size)(z:C<=lo)(J:hi<=T):Vx aq C T b v:=
 ⟨ih x.lo_,ih x.hi_,x.at_.keep (ih x.hi_) k yaa⟩
theorem PtO.mk{i}(a5:Kept 0 0 w ao)(cs t m)(aj:cnt v.op<=m)(h:∀k,k<cnt v.op->∃a,cs[k]? =some a/\(i8 v k=true->PC ao w.heap.size ao.heap.size P vs0 a (λd N=>iR i v la k d N))/\(i8 v k=false->a=.nilFunc))(g)(aG:g=ao.heap.size):
  PtO w P vs0 i v la (.returned (hZ g m m)) (ao.alloc (.cells cs t)):=by
 have b0:=dE 0 0 ao (.cells cs t);have bR:(ao.alloc (.cells cs t)).heap.size=ao.heap.size+1:=by simp
 subst aG;have ai:=a5.size
 have e:∀k a,cs[k]? =some _->cs.getD k .nilFunc=a:=λk a H=>by
  rw[Array.getD_eq_getD_getElem?,H];rfl
 refine⟨_,_,_,λk=>cs.getD k .nilFunc,rfl,aj,⟨λk H=>⟨_,rfl,ai,by omega,?_⟩,λk H I=>?_,λk H I=>?_⟩,a5.trans b0⟩
 ·grind[World.cell?_alloc_at]
 ·obtain⟨a,z,J,_⟩:=h k H;simp only[e k a z];exact(J I).mono ((Same.refl yac).chg (b0.chg) (λ_ _ _ h=>h)) yac xaa
 grind
theorem bA.qbx(h:Zp:=by
 have I:(w.alloc (.cells #[ge P] 95)).cell? ⟨w.heap.size,0,none⟩=some (ge P):=by
  rw[World.cell?_alloc_at _ _ w.heap.size 0 rfl];rfl
 have bJ:M _:=aL.trans y;have aX:M (Bx ((w.alloc (.cells #[ge P] 95)).alloc (ir v.op v.len v.a v.b v.c v.k)) w.heap.size (w.heap.size+2) w.heap.size (ge P)):=⟨yac,by omega,by rw[y.cell (p:=⟨w.heap.size,0,none⟩) (by rw[a9];exact yae) xaa];exact I⟩
 have f:M (Vx ((w.alloc (.cells #[ge P] 95)).alloc (ir v.op v.len v.a v.b v.c v.k)) w.heap.size (w.heap.size+2) (w.heap.size+1) v):=⟨by omega,by omega,aD⟩
 have j:=Q bj;clear aL y a9 aD bj I;go_enter func220,ntmps220;go_upto_region 1 with fail;generalize (w.alloc (.cells #[ge P] 95)).alloc (ir v.op v.len v.a v.b v.c v.k)=Z at bJ aX f j⊢;have aB:=dE 0 0 Z (.cells #[h0 v.len] 3);have bI:(Z.alloc (.cells #[h0 v.len] 3)).heap.size=w.heap.size+3:=by have:=j.o;simp;omega
 have U:M (Bx (Z.alloc (.cells #[h0 v.len] 3)) w.heap.size (w.heap.size+3) (w.heap.size+2) (h0 v.len)):=⟨by omega,by omega,by rw[World.cell?_alloc_at _ _ (w.heap.size+2) 0 j.o.symm];rfl⟩
 have ce:M _:=Aq aX.o aB (by rw[j.o];exact yac) yac (show w.heap.size+2<=w.heap.size+3 by omega);have a:M _:=Ar f.o aB (by rw[j.o];exact yac) yac (show w.heap.size+2<=w.heap.size+3 by omega);have ai:M _:=bJ.o.trans aB;have h:=Q bI;obtain⟨bh,aH,aN,aM,aS,aC⟩:=f.o.at_;simp only[Nat.zero_add]at aH aN aM aS aC;have ci:=j.o;clear aB bI;go_upto_region 2 with fail;clear bh aH aN aM aS aC;generalize Z.alloc (.cells #[h0 v.len] 3)=ao at U ce a ai h⊢;clear ci bJ aX f j;exact qfj):Zp:=h
theorem bA.qfk(h:Zp:=by
 have l:M (Bx ao w.heap.size ao.heap.size (w.heap.size+2) (h0 v.len)):=by show Bx _ _ _ _ _;rw[h.o];exact U.o
 have c:M (Vx ao w.heap.size ao.heap.size (w.heap.size+1) v):=by show Vx _ _ _ _ _;rw[h.o];exact a.o
 obtain av|av:=av
 ·rw[av]at bh
  have R:M (∀t g,g=ao.heap.size->PtO w P vs0 i v la (.returned (hZ g 2 2)) (ao.alloc (.cells #[.func (.func 228) #[] #[ge w.heap.size,ge (w.heap.size+2),ge (w.heap.size+1)],.func (.func 229) #[] #[ge w.heap.size,ge (w.heap.size+2),ge (w.heap.size+1)]] t))):=by
   intro t g aG;refine PtO.mk ai.o _ t 2 (by rw[av];decide) (λk H=>?_) g aG;have aj:cnt v.op=2:=i0 av
   obtain rfl|rfl:=(by omega:k=0\/k=1)
   ·refine⟨_,rfl,λ_=>(Hh af.o l.o bH n1 c.o).cast ?_,λI=>?_⟩
    ·funext d N;unfold iR;rw[av];rfl
    unfold i8 at I;rw[av]at I;simp at I
   refine⟨_,rfl,λ_=>(Hi af.o l.o bH n1 c.o).cast ?_,λI=>?_⟩
   ·funext d N;unfold iR;rw[av];rfl
   unfold i8 at I;rw[av]at I;simp at I
  exact xgl
 rw[av]at bh
 have R:M (∀t g,g=ao.heap.size->PtO w P vs0 i v la (.returned (hZ g 3 3)) (ao.alloc (.cells #[.nilFunc,.func (.func 226) #[] #[ge w.heap.size,ge (w.heap.size+2),ge (w.heap.size+1)],.func (.func 227) #[] #[ge w.heap.size,ge (w.heap.size+2),ge (w.heap.size+1)]] t))):=by
  intro t g aG;refine PtO.mk ai.o _ t 3 (by rw[av];decide) (λk H=>?_) g aG;have aj:cnt v.op=3:=i0 av
  obtain rfl|rfl|rfl:=(by omega:k=0\/k=1\/k=2)
  ·refine⟨_,rfl,λI=>?_,λ_=>rfl⟩;unfold i8 at I;rw[av]at I;simp at I
  ·refine⟨_,rfl,λ_=>(Hf af.o l.o bH n1 c.o).cast ?_,λI=>?_⟩
   ·funext d N;unfold iR;rw[av];rfl
   unfold i8 at I;rw[av]at I;simp at I
  refine⟨_,rfl,λ_=>(Hg af.o l.o bH n1 c.o).cast ?_,λI=>?_⟩
  ·funext d N;unfold iR;rw[av];rfl
  unfold i8 at I;rw[av]at I;simp at I
 exact xgl):Zp:=h
open bA in
theorem tL(w P vs0 i v la)(bH:-1000<=v.len)(n1:v.len<=1000)(av:v.op=7\/v.op=8):
  Calls prog 220 #[ge P,v.agg] w λe D=>PtO w P vs0 i v la e D:=by
 exact qbw
theorem PtO.empty{i}(a5:Kept 0 0 w ao)(aj:cnt v.op=0):PtO w P vs0 i v la (.returned (.slice none 0 0)) ao:=
 ⟨none,0,0,λ_=>.nilFunc,rfl,by omega,⟨λk H=>by omega,λk H=>by omega,λk H=>by omega⟩,a5⟩
theorem bB.qbx(h:Zp:=by
 have I:(w.alloc (.cells #[ge P] 95)).cell? ⟨w.heap.size,0,none⟩=some (ge P):=by
  rw[World.cell?_alloc_at _ _ _ 0 rfl];rfl
 have ai:M _:=aL.trans y;have ce:M (Bx _ _ (w.heap.size+2) w.heap.size _):=⟨yac,by omega,by rw[y.cell (by rw[a9];exact yae) xaa];exact I⟩
 have a:M (Vx _ w.heap.size (w.heap.size+2) _ v):=⟨by omega,by omega,aD⟩
 have h:=Q bj;clear aL y a9 aD bj I;go_enter func221,ntmps221;go_upto_region 1 with fail;generalize (w.alloc _).alloc _=ao at ai ce a h⊢;exact qfj):Zp:=h
theorem bB.qfk(h:Zp:=by
 have c:M (Vx ao w.heap.size ao.heap.size (w.heap.size+1) v):=by show Vx _ _ _ _ _;rw[h.o];exact a.o
 obtain av|av|av|av|av|av:=av
 ·rw[av]at bh;obtain⟨j,q,aK,f,ar,b9⟩:=bo (by rw[av];decide)
  have R:M (∀t g,g=ao.heap.size->PtO w P vs0 i v la (.returned (hZ g 1 1)) (ao.alloc (.cells #[.func (.func 230) #[] #[ge w.heap.size,ge (w.heap.size+1)]] t))):=by
   intro t g aG;refine PtO.mk ai.o _ t 1 (by rw[av];decide) (λk H=>?_) g aG;have aj:cnt v.op=1:=i0 av
   obtain rfl:k=0:=xaa;refine⟨_,rfl,λ_=>(LC af.o c.o q aK (it f ar) (it f b9)).cast ?_,λI=>?_⟩
   ·funext d N;unfold iR;rw[av,f];rfl
   unfold i8 at I;rw[av]at I;simp at I
  exact xdm
 ·rw[av]at bh
  have R:M (∀t g,g=ao.heap.size->PtO w P vs0 i v la (.returned (hZ g 1 1)) (ao.alloc (.cells #[.func (.func 231) #[] #[ge w.heap.size]] t))):=by
   intro t g aG;refine PtO.mk ai.o _ t 1 (by rw[av];decide) (λk H=>?_) g aG;have aj:cnt v.op=1:=i0 av
   obtain rfl:k=0:=xaa;refine⟨_,rfl,λ_=>(Hj af.o).cast ?_,λI=>?_⟩
   ·funext d N;unfold iR;rw[av];rfl
   unfold i8 at I;rw[av]at I;simp at I
  exact xdm
 ·rw[av]at bh;obtain⟨j,q,aK,f,ar,b9⟩:=bo (by rw[av];decide)
  have R:M (∀t g,g=ao.heap.size->PtO w P vs0 i v la (.returned (hZ g 1 1)) (ao.alloc (.cells #[.func (.func 232) #[] #[ge w.heap.size,ge (w.heap.size+1)]] t))):=by
   intro t g aG;refine PtO.mk ai.o _ t 1 (by rw[av];decide) (λk H=>?_) g aG;have aj:cnt v.op=1:=i0 av
   obtain rfl:k=0:=xaa;refine⟨_,rfl,λ_=>(Hk af.o c.o q aK (it f ar) (it f b9)).cast ?_,λI=>?_⟩
   ·funext d N;unfold iR;rw[av,f];rfl
   unfold i8 at I;rw[av]at I;simp at I
  exact xdm
 ·rw[av]at bh
  have R:M (∀t g,g=ao.heap.size->PtO w P vs0 i v la (.returned (hZ g 1 1)) (ao.alloc (.cells #[.func (.func 233) #[] #[ge w.heap.size,ge (w.heap.size+1)]] t))):=by
   intro t g aG;refine PtO.mk ai.o _ t 1 (by rw[av];decide) (λk H=>?_) g aG;have aj:cnt v.op=1:=i0 av
   obtain rfl:k=0:=xaa;refine⟨_,rfl,λ_=>(LD af.o c.o).cast ?_,λI=>?_⟩
   ·funext d N;unfold iR;rw[av];rfl
   unfold i8 at I;rw[av]at I;simp at I
  exact xdm
 ·exact xfa
 exact xfa):Zp:=h
open bB in
theorem vh(w P vs0 i v la)(av:v.op=9\/v.op=10\/v.op=11\/v.op=12\/v.op=0\/v.op=1)
  (bo:(v.op=9\/v.op=11)->∃j:Nat,v.a=(j:Int)/\j<vs0.length/\(vs0.getD j h7).len=la/\1<=la/\la<=1000):
  Calls prog 221 #[ge P,v.agg] w λe D=>PtO w P vs0 i v la e D:=by
 exact qbw
