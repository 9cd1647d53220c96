import Derived.Test.YtamokkcfibdghaaGreatP39
import Derived.Test.YtamokkcfibdghaaGreatP38
import Derived.Test.YtamokkcfibdghaaGreatP29
import Derived.Test.YtamokkcfibdghaaGreatP18
import Derived.Test.YtamokkcfibdghaaGreatP22
import Derived.Test.YtamokkcfibdghaaGreatP30
namespace Go.Proofs.Z
variable {Zp:Prop}
open Tryz Go.RowKit Flt
set_option maxRecDepth 1000000
set_option maxHeartbeats 0
section
variable {bs ins:List Int}{vs:List Vl}
def opT (k:Nat):Int:=[0,2,3,4,5,7,4,2,3].getD k 0
def gwM (ins:List Int)(vs:List Vl)(bs:List Int)(i:Nat):Vl×Nat:=
 if nv bs i%16=0\/vs.length=0 then
  if 0<ins.length/\nv bs (ni bs i)%2=1 then (⟨0,ins.getD (nv bs (ni bs (ni bs i))%ins.length) 0,((nv bs (ni bs (ni bs i))%ins.length:Nat):Int),0,0,0⟩,ni bs (ni bs (ni bs i)))
  else (⟨1,((1+nv bs (dfI bs (if 0<ins.length then ni bs (ni bs i)else ni bs i))%4:Nat):Int),0,0,0,fb (dfV bs (if 0<ins.length then ni bs (ni bs i)else ni bs i))⟩,ni bs (dfI bs (if 0<ins.length then ni bs (ni bs i)else ni bs i)))
 else if nv bs i%16<9 then (⟨opT (nv bs i%16),(vd vs (nv bs (ni bs i)%vs.length)).len,((nv bs (ni bs i)%vs.length:Nat):Int),jW vs (vd vs (nv bs (ni bs i)%vs.length)).len (nv bs (ni bs (ni bs i))),0,0⟩,ni bs (ni bs (ni bs i)))
 else if nv bs i%16=9 then (⟨6,(vd vs (nv bs (ni bs i)%vs.length)).len,((nv bs (ni bs i)%vs.length:Nat):Int),0,0,0⟩,ni bs (ni bs i))
 else if nv bs i%16=10 then (⟨8,(vd vs (nv bs (ni bs i)%vs.length)).len,((nv bs (ni bs i)%vs.length:Nat):Int),jW vs (vd vs (nv bs (ni bs i)%vs.length)).len (nv bs (ni bs (ni bs i))),jW vs (vd vs (nv bs (ni bs i)%vs.length)).len (nv bs (ni bs (ni bs (ni bs i)))),0⟩,ni bs (ni bs (ni bs (ni bs i))))
 else if nv bs i%16=11 then (⟨9,1,((nv bs (ni bs i)%vs.length:Nat):Int),0,0,0⟩,ni bs (ni bs i))
 else if nv bs i%16=12 then (⟨11,1,((nv bs (ni bs i)%vs.length:Nat):Int),0,((nv bs (ni bs (ni bs i))%(vd vs (nv bs (ni bs i)%vs.length)).len.toNat:Nat):Int),0⟩,ni bs (ni bs (ni bs i)))
 else if nv bs i%16=13 then (⟨13,(vd vs (nv bs (ni bs i)%vs.length)).len,((nv bs (ni bs i)%vs.length:Nat):Int),0,0,0⟩,ni bs (ni bs i))
 else if jW vs 1 (nv bs (ni bs (ni bs i)))<0 then (⟨9,1,((nv bs (ni bs i)%vs.length:Nat):Int),0,0,0⟩,ni bs (ni bs (ni bs (ni bs i))))
 else if nv bs i%16=14 then (⟨10,((1+nv bs (ni bs (ni bs (ni bs i)))%4:Nat):Int),jW vs 1 (nv bs (ni bs (ni bs i))),0,0,0⟩,ni bs (ni bs (ni bs (ni bs i))))
 else (⟨12,((1+nv bs (ni bs (ni bs (ni bs i)))%4:Nat):Int),jW vs 1 (nv bs (ni bs (ni bs i))),0,((nv bs (ni bs (ni bs (ni bs (ni bs i))))%(1+nv bs (ni bs (ni bs (ni bs i)))%4):Nat):Int),0⟩,ni bs (ni bs (ni bs (ni bs (ni bs i)))))
theorem L4{w I P a n cap i a1 a2 a3 Y c1 c2 Z c3 outs}(f:DG w I (.slice a1 Y c1) (.slice a2 vs.length c2) (.slice a3 Z c3) ins vs outs)(C:RdF w P a n cap i bs)(hP:P<I)(hn:vs.length<=100000)(bO:∀k,k<vs.length->1<=(vd vs k).len/\(vd vs k).len<=1000):
  Calls prog 36 #[eZ a1 Y c1 a2 vs.length c2 a3 Z c3,hG P] w (GwO w I P a n cap (gwM ins vs bs i).2 bs (.slice a1 Y c1) (.slice a2 vs.length c2) (.slice a3 Z c3) ins vs outs (gwM ins vs bs i).1):=by
 have ae:Y=ins.length:=jU f.r1;unfold gwM;by_cases aj:nv bs i%16=0\/vs.length=0
 ·rw[hK aj];by_cases B:0<ins.length/\nv bs (ni bs i)%2=1
  ·rw[hK B];have:=KR f C hP hn xaa B.2 aj;rw[ae]at this⊢;exact this
  rw[hJ B];by_cases R:0<ins.length
  ·rw[hK R];exact um f C hP hn (.inr ⟨by omega,λc=>B ⟨R,c⟩,rfl⟩) aj
  rw[hJ R];exact um f C hP hn (.inl ⟨by omega,rfl⟩) aj
 rw[hJ aj];have aL:0<vs.length:=xaa;have au:nv bs i%16<16:=Nat.mod_lt _ xaa;have az:=bO _ (Nat.mod_lt (nv bs (ni bs i)) aL);by_cases ah:nv bs i%16<9
 ·rw[hK ah];refine Hz f C hP hn aL rfl ?_;rcases (by omega:nv bs i%16=1\/nv bs i%16=2\/nv bs i%16=3\/nv bs i%16=4\/nv bs i%16=5\/nv bs i%16=6\/nv bs i%16=7\/nv bs i%16=8) with e|e|e|e|e|e|e|e
  all_goals (rw[e];decide)
 rw[hJ ah];by_cases c:nv bs i%16=9
 ·rw[hK c];exact ul f C hP hn aL rfl (.inl ⟨c,rfl,rfl⟩)
 rw[hJ c];by_cases c:nv bs i%16=10
 ·rw[hK c];exact Hx f C hP hn aL rfl c
 rw[hJ c];by_cases c:nv bs i%16=11
 ·rw[hK c];exact ul f C hP hn aL rfl (.inr (.inl ⟨c,rfl,rfl⟩))
 rw[hJ c];by_cases c:nv bs i%16=12
 ·rw[hK c];exact Es f C hP hn aL xaa xaa xaa c
 rw[hJ c];by_cases c:nv bs i%16=13
 ·rw[hK c];exact ul f C hP hn aL rfl (.inr (.inr ⟨c,rfl,rfl⟩))
 rw[hJ c];by_cases b:jW vs 1 (nv bs (ni bs (ni bs i)))<0
 ·rw[hK b];exact Ep f C hP hn aL rfl b xaa
 rw[hJ b];by_cases c:nv bs i%16=14
 ·rw[hK c];exact Er f C hP hn aL rfl xaa c
 rw[hJ c];exact Hw f C hP hn aL rfl xaa xaa
theorem Cr(vs j):(vd (vs.map sv) j).len=(vd vs j).len:=by
 exact xit
theorem Ad(vs q fr):∀m k,nK (vs.map sv) q fr m k=nK vs q fr m k
 |0,_=>rfl
 |m+1,k=>by
  rw[nK,nK,Ad vs q fr m (k+1),List.length_map]
  rw[show((vs.map sv).getD ((fr+k)%vs.length) hM).len=(vs.getD ((fr+k)%vs.length) hM).len from Cr vs _]
theorem H4(vs q fr):jW (vs.map sv) q fr=jW vs q fr:=by
 unfold jW;rw[Ad,List.length_map]
theorem H7(ins vs bs i):gwM ins (vs.map sv) bs i=gwM ins vs bs i:=by
 unfold gwM;simp only[List.length_map,Cr,H4]
theorem yg{i}(hi:∀k,k<ins.length->1<=ins.getD k 0/\ins.getD k 0<=1000)(bO:∀k,k<vs.length->1<=(vd vs k).len/\(vd vs k).len<=1000):1<=(gwM ins vs bs i).1.len/\(gwM ins vs bs i).1.len<=1000:=by
 unfold gwM;by_cases aj:nv bs i%16=0\/vs.length=0
 ·rw[hK aj];split
  ·rename_i B;exact hi _ (Nat.mod_lt _ B.1)
  simp only;omega
 rw[hJ aj];have az:=bO _ (Nat.mod_lt (nv bs (ni bs i)) (by omega:0<vs.length));repeat' split
 all_goals (simp only;omega)
end
section
attribute [local go_sem] eG eE eD
variable {w0 W':World}{p P I n cap i m g c G:Nat}{bb N aA am al ar:Value}{a:Option Addr}{bs ins outs K U:List Int}{vs bu:List Vl}{S:Nat->Prop}
theorem gn(w){bA rest o a Q}(H:o.guard=none)(s x)
  (av:o.op=.call {callee:=.builtin .append,args:=#[s,x],argTypes:=#[23,23]})
  (I) (v) (ba) (ad:a.eval s=v) (aT:w.ownsRow I 3 1 v ba.length (ba.map (Value.int .i64)))
  (aw) (y) (au:a.eval x=.slice (some aw) 1 1) (f:w.cell? aw=some (hI y))
  (l:ba.length+1<=1000000) (ae:I<=w.heap.size)
  (h:∀g cap n J,n=(ba++[y]).length->J.ownsRow I 3 1 (hH g n cap) n ((ba++[y]).map (Value.int .i64))->Chg (λb=>v.ownBlock=some b) w J->(v.ownBlock=some g\/g=w.heap.size)->wpList prog bA Q rest (a.put o.dst (hH g n cap)) J):wpList prog bA Q (o::rest) a w:=by
 obtain⟨bK,hi,bU,bO,bR⟩:=info_parts sW;refine wpList_append_lies w H s x _ av I 3 _ _ 1 8 underlying23 hi bU bO bR rfl xab v _ _ ad aT _ 1 1 [hI y] au rfl ?_ ?_ xab (by unfold maxLen;omega) xaa ae _ rfl ?_
 ·grind [Addr.add]
 ·intro u aJ;simp at aJ;subst aJ;rfl
 intro g cap J B R h3 _;have e:ba.length+1=(ba++[y]).length:=by grind
 rw[e]at B⊢;refine h g _ _ _ rfl ?_ (i7 R) h3;grind
structure Dx (w0 W:World)(P:Nat)(a:Option Addr)(n cap i:Nat)(bs:List Int)(u1 u2 u3:Value)(ins:List Int)(vs:List Vl)(outs:List Int):Prop where
 rd:RdF W P a n cap i bs
 dg:DG W (w0.heap.size+2) u1 u2 u3 ins vs outs
 bx:RB W (w0.heap.size+1) u1 u2 u3
 rs:RB W w0.heap.size iR iR iR
 p0:P<w0.heap.size
 k0:Kept P (P+1) w0 W
theorem Dx.step{W}(f:Dx w0 W P a n cap i bs am al ar ins vs outs)(C:RdF W' P a n cap G bs)(k:Kept P (P+1) W W'):Dx w0 W' P a n cap G bs am al ar ins vs outs:=
 ⟨C,f.dg.kept k (hR f.p0),f.bx.kept k (hR f.p0),f.rs.kept k (hR f.p0),f.p0,f.k0.trans k⟩
theorem Dx.keep{W}(f:Dx w0 W P a n cap i bs am al ar ins vs outs)(k:Kept 0 0 W W'):Dx w0 W' P a n cap i bs am al ar ins vs outs:=f.step (f.rd.keep0 k) (fw k)
theorem Dx.next{W}(f:Dx w0 W P a n cap i bs am al ar ins vs outs):
  Calls prog 13 #[hG P] W λe W'=>e=.returned (hI (nv bs i:Int))/\Dx w0 W' P a n cap (ni bs i) bs am al ar ins vs outs:=
 (jp W P a n cap i bs f.rd).mono λ_ _ q=>⟨q.1,f.step q.2.1 q.2.2.1⟩
theorem Dx.start(C:RdF w0 P a n cap i bs):Dx w0 ((w0.alloc fp).alloc fp) P a n cap i bs iR iR iR [] [] []:=by
 have an:=ez 0 0 w0 fp;have ao:=ez 0 0 (w0.alloc fp) fp;have hb:=fY (w0.alloc fp);rw[show(w0.alloc _).heap.size=w0.heap.size+1 by simp]at hb;refine⟨C.keep0 (an.trans ao),⟨yav _ _ _ _,yav _ _ _ _,yav _ _ _ _,?_,?_,?_,?_,by simp⟩,hb,(fY _).keep ao,C.lt,fw (an.trans ao)⟩
 ·intro b h;cases h
 ·intro b h;cases h
 ·intro b h;cases h
 intro v h;cases h
theorem Dx.set{W W2 bc bd bg}(f:Dx w0 W P a n cap i bs am al ar ins vs outs)(c:Chg S W W')(aT:∀b,S b->b=P\/w0.heap.size+2<=b)(C:RdF W' P a n cap G bs)(aV:DG W' (w0.heap.size+2) bc bd bg K bu U)(k:Kept (w0.heap.size+1) (w0.heap.size+1+1) W' W2)(hb:RB W2 (w0.heap.size+1) bc bd bg):Dx w0 W2 P a n cap G bs bc bd bg K bu U:=by
 have aK:=f.p0;have e:∀o,_:=λo=>c.cell (p:=⟨w0.heap.size,o,none⟩) f.rs.sz (λq=>by have:=aT _ q;simp at this;omega);have x:∀o,_:=λo=>c.frozen (p:=⟨w0.heap.size,o,none⟩) f.rs.sz (λq=>by have:=aT _ q;simp at this;omega);have ay:RB W' _ _ _ _:=⟨yaj f.rs.sz c.size,hU e f.rs.q0,hU e f.rs.q1,hU e f.rs.q2,hU x f.rs.f0,hU x f.rs.f1,hU x f.rs.f2⟩
 refine⟨C.keep k (.inl xaa),aV.kept k xaa,hb,ay.kept k xaa,aK,⟨k.os.trans (c.os.trans f.k0.os),k.tape.trans (c.tape.trans f.k0.tape),k.output.trans (c.output.trans f.k0.output),yan f.k0.size (yan c.size k.size),λb hb hn=>?_⟩⟩;have B:=f.k0.size;have R:=c.size;rw[k.block b xaa xaa,c.block b xaa (λq=>hR (aT b q))];exact f.k0.block b hb hn
theorem jO{W}(t:RB W p bb N aA)(c:Chg S W W')(aK:¬S p):RB W' p bb N aA:=
 have e:∀o,W'.cell? ⟨p,o,none⟩=W.cell? ⟨p,o,none⟩:=λo=>c.cell (p:=⟨p,o,none⟩) t.sz aK
 have x:∀o,W'.frozen? ⟨p,o,none⟩=W.frozen? ⟨p,o,none⟩:=λo=>c.frozen (p:=⟨p,o,none⟩) t.sz aK
 ⟨yaj t.sz c.size,hU e t.q0,hU e t.q1,hU e t.q2,hU x t.f0,hU x t.f1,hU x t.f2⟩
theorem ph{W}(t:RB W p bb N aA)(x y z):RB (fB W p x y z) p x y z:=by
 obtain⟨bh,aU,aY⟩:=fj W p _ _ _ t.q0 t.q1 t.q2 x y z;have k:=ft W p x y z;refine⟨yaj t.sz k.size,bh,aU,aY,?_,?_,?_⟩
 ·unfold fB;simp[t.f0]
 ·unfold fB;simp[t.f1]
 unfold fB;simp[t.f2]
theorem yh{W}(t:RB W p bb N aA)(x):RB (W.setCell ⟨p,0,none⟩ x) p x N aA/\RB (W.setCell ⟨p,2,none⟩ x) p bb N x:=by
 refine⟨⟨by simpa using t.sz,fJ _ _ _ _ _ t.q0,by rw[eO _ _ _ _ _ _ (.inr xaa)];exact t.q1,by rw[eO _ _ _ _ _ _ (.inr xaa)];exact t.q2,by simp[t.f0],by simp[t.f1],by simp[t.f2]⟩,⟨by simpa using t.sz,by rw[eO _ _ _ _ _ _ (.inr xaa)];exact t.q0,by rw[eO _ _ _ _ _ _ (.inr xaa)];exact t.q1,fJ _ _ _ _ _ t.q2,by simp[t.f0],by simp[t.f1],by simp[t.f2]⟩⟩
theorem DG.vals{W}(f:DG W I am al ar ins vs outs)(ah:Chg (λb=>al.ownBlock=some b) W W')(av:W'.ownsRow I 53 6 (hH g m c) m (fQ bu))(az:m=bu.length)(aW:al.ownBlock=some g\/W.heap.size<=g)(O:∀v∈bu,v.k<18446744073709551616):DG W' I am (hH g m c) ar ins bu outs:=by
 subst az;refine⟨fN f.r1 ah λb hb ai=>f.a12 b hb ai,av,fN f.r3 ah λb hb ai=>f.a23 b ai hb,?_,f.a13,?_,O,yan f.sz ah.size⟩
 ·intro b hb ai;have e:b=g:=by simpa[Value.ownBlock] using ai.symm
  subst e;rcases aW with c|c
  ·exact f.a12 _ hb c
  have:=(eI f.r1 hb).2;omega
 intro b hb ai;have e:b=g:=by simpa[Value.ownBlock] using hb.symm
 subst e;rcases aW with c|c
 ·exact f.a23 _ c ai
 have:=(eI f.r3 ai).2;omega
theorem DG.ins_{W}(f:DG W I am al ar ins vs outs)(ah:Chg (λb=>am.ownBlock=some b) W W')(av:W'.ownsRow I 3 1 (hH g m c) m (K.map (Value.int .i64)))(az:m=K.length)(aW:am.ownBlock=some g\/W.heap.size<=g):DG W' I (hH g m c) al ar K vs outs:=by
 subst az;refine⟨av,fN f.r2 ah λb hb ai=>f.a12 b ai hb,fN f.r3 ah λb hb ai=>f.a13 b ai hb,?_,?_,f.a23,f.k,yan f.sz ah.size⟩
 ·intro b hb ai;have e:b=g:=by simpa[Value.ownBlock] using hb.symm
  subst e;rcases aW with c|c
  ·exact f.a12 _ c ai
  have:=(eI f.r2 ai).2;omega
 intro b hb ai;have e:b=g:=by simpa[Value.ownBlock] using hb.symm
 subst e;rcases aW with c|c
 ·exact f.a13 _ c ai
 have:=(eI f.r3 ai).2;omega
theorem DG.outs_{W}(f:DG W I am al ar ins vs outs)(ah:Chg (λb=>ar.ownBlock=some b) W W')(av:W'.ownsRow I 3 1 (hH g m c) m (U.map (Value.int .i64)))(az:m=U.length)(aW:ar.ownBlock=some g\/W.heap.size<=g):DG W' I am al (hH g m c) ins vs U:=by
 subst az;refine⟨fN f.r1 ah λb hb ai=>f.a13 b hb ai,fN f.r2 ah λb hb ai=>f.a23 b hb ai,av,f.a12,?_,?_,f.k,yan f.sz ah.size⟩
 ·intro b hb ai;have e:b=g:=by simpa[Value.ownBlock] using ai.symm
  subst e;rcases aW with c|c
  ·exact f.a13 _ hb c
  have:=(eI f.r1 hb).2;omega
 intro b hb ai;have e:b=g:=by simpa[Value.ownBlock] using ai.symm
 subst e;rcases aW with c|c
 ·exact f.a23 _ hb c
 have:=(eI f.r2 hb).2;omega
theorem Dx.put{w0 W P a n cap i bs a1 a2 a3 Y c1 c2 Z c3 ins vs outs aD}(f:Dx w0 W P a n cap i bs (.slice a1 Y c1) (.slice a2 vs.length c2) (.slice a3 Z c3) ins vs outs)(k:Kept 0 0 W aD)(v)(aL:v.k<18446744073709551616)(hn:vs.length<=100000):
  Calls prog 32 #[eZ a1 Y c1 a2 vs.length c2 a3 Z c3,v.agg] aD λe af=>∃aG cap',e=.returned (eZ a1 Y c1 (some ⟨aG,0,none⟩) (vs.length+1) cap' a3 Z c3)/\RB af (w0.heap.size+1) (.slice a1 Y c1) (.slice a2 vs.length c2) (.slice a3 Z c3)/\Dx w0 (fB af (w0.heap.size+1) (.slice a1 Y c1) (hH aG (vs.length+1) cap') (.slice a3 Z c3)) P a n cap i bs (.slice a1 Y c1) (hH aG (vs.length+1) cap') (.slice a3 Z c3) ins (vs++[v]) outs:=by
 have f1:=f.keep k;have aK:=f.p0;refine(rU _ _ _ _ _ _ _ _ _ _ _ v f1.dg.r2 f1.dg.sz xaa).mono ?_;rintro e af ⟨aG,cap',rfl,aT,ad⟩;have aS:∀b,(Value.slice a2 _ _).ownBlock=some b->_:=λb hb=>(eI f1.dg.r2 hb).1;have ah:Chg _ _ _:=⟨ad.chg.os,ad.chg.tape,ad.chg.output,ad.chg.size,λb hb hn=>ad.chg.block b hb (by rintro (c|c);exact c;exact hn c)⟩
 have aW:(Value.slice a2 vs.length c2).ownBlock=some aG\/aD.heap.size<=aG:=by
  exact xfl
 have O:∀u∈vs++[v],u.k<18446744073709551616:=λu aJ=>by
  exact xek
 have hb:=jO f1.bx ah (λc=>hR (aS _ c));exact⟨_,_,rfl,hb,f1.set ah (λb hb=>.inr (aS b hb)) (rJ f1.rd ah λb hb=>hR (aS b hb)) (f1.dg.vals ah aT xac aW O) (ft _ _ _ _ _) (ph hb _ _ _)⟩
theorem Dx.grow{W a1 a2 a3 Y c1 c2 Z c3}(f:Dx w0 W P a n cap i bs (.slice a1 Y c1) (.slice a2 vs.length c2) (.slice a3 Z c3) ins vs outs)(hn:vs.length<=100000)(bO:∀k,k<vs.length->1<=(vd vs k).len/\(vd vs k).len<=1000):
  Calls prog 36 #[eZ a1 Y c1 a2 vs.length c2 a3 Z c3,hG P] W λe af=>∃v aG cap',e=.returned (eZ a1 Y c1 (some ⟨aG,0,none⟩) (vs.length+1) cap' a3 Z c3)/\sv v=(gwM ins vs bs i).1/\RB af (w0.heap.size+1) (.slice a1 Y c1) (.slice a2 vs.length c2) (.slice a3 Z c3)/\Dx w0 (fB af (w0.heap.size+1) (.slice a1 Y c1) (hH aG (vs.length+1) cap') (.slice a3 Z c3)) P a n cap (gwM ins vs bs i).2 bs (.slice a1 Y c1) (hH aG (vs.length+1) cap') (.slice a3 Z c3) ins (vs++[v]) outs:=by
 have aK:=f.p0;refine(L4 f.dg f.rd xaa hn bO).mono ?_;rintro e af ⟨v,aG,cap',rfl,aj,aV,ay,ai,aW⟩;have aS:∀b,(Value.slice a2 vs.length c2).ownBlock=some b->w0.heap.size+2<=b:=λb hb=>(eI f.dg.r2 hb).1;have hb:=jO f.bx ai (by rintro (c|c);omega;have:=aS _ c;omega);exact⟨v,aG,cap',rfl,aj,hb,f.set ai (by rintro b (c|c);exact .inl c;exact .inr (aS b c)) ay aV (ft _ _ _ _ _) (ph hb _ _ _)⟩
theorem Dx.ins_{W x}(f:Dx w0 W P a n cap i bs am al ar ins vs outs)(ah:Chg (λb=>am.ownBlock=some b) W W')(av:W'.ownsRow (w0.heap.size+2) 3 1 (hH g m c) m ((ins++[x]).map (Value.int .i64)))(az:m=(ins++[x]).length)(aW:am.ownBlock=some g\/g=W.heap.size):Dx w0 (W'.setCell ⟨w0.heap.size+1,0,none⟩ (hH g m c)) P a n cap i bs (hH g m c) al ar (ins++[x]) vs outs:=by
 have aK:=f.p0;have aS:∀b,am.ownBlock=some b->_:=λb hb=>(eI f.dg.r1 hb).1;have hb:=jO f.bx ah (λc=>hR (aS _ c));exact f.set ah (λb hb=>.inr (aS b hb)) (rJ f.rd ah λb hb=>hR (aS b hb)) (f.dg.ins_ ah av az (aW.imp id λe=>Nat.le_of_eq e.symm)) (eX _ _ _ yac) (yh hb _).1
theorem Dx.outs_{W x}(f:Dx w0 W P a n cap i bs am al ar ins vs outs)(ah:Chg (λb=>ar.ownBlock=some b) W W')(av:W'.ownsRow (w0.heap.size+2) 3 1 (hH g m c) m ((outs++[x]).map (Value.int .i64)))(az:m=(outs++[x]).length)(aW:ar.ownBlock=some g\/g=W.heap.size):Dx w0 (W'.setCell ⟨w0.heap.size+1,2,none⟩ (hH g m c)) P a n cap i bs am al (hH g m c) ins vs (outs++[x]):=by
 have aK:=f.p0;have aS:∀b,ar.ownBlock=some b->_:=λb hb=>(eI f.dg.r3 hb).1;have hb:=jO f.bx ah (λc=>hR (aS _ c));exact f.set ah (λb hb=>.inr (aS b hb)) (rJ f.rd ah λb hb=>hR (aS b hb)) (f.dg.outs_ ah av az (aW.imp id λe=>Nat.le_of_eq e.symm)) (eX _ _ _ yac) (yh hb _).2
variable {w:World}{N ab:Option Addr}{m1 ae cap m3 ak base ag i j ap:Nat}{vs:List Vl}{Q y r u l d F:Int}{X:Nat}
theorem aI.qay(h:Zp:=by
 unfold PtC;have e:V _:=ao;clear ao;go_enter func145,ntmps145;go_wp2_with fail;rw[aS.o];clear ay bc bd bg Z s aS;refine fC (NK ad xaa hj e.o ?_);exact no_implicit_lambda% xan):Zp:=h
open aI in
theorem N2(H:MvH w cap base ag i vs ⟨9,Q,(j:Int),r,u,X⟩)(hj:j<vs.length)(ao:(vs.getD j hM).len=l):PtC w N ab m1 ae cap m3 ak base ag i vs 0 d ([eL 10 l d 0 0],((vs.length:Nat):Int)) true:=by
 exact qax
theorem N.qao(h:Zp:=by
 refine fC (MW ad xaa ?_);exact no_implicit_lambda% xan):Zp:=h
open N in
theorem KT(H:MvH w cap base ag i vs ⟨10,Q,y,r,u,X⟩):PtC w N ab m1 ae cap m3 ak base ag i vs 0 d ([eL 9 1 d 0 0],((vs.length:Nat):Int)) true:=by
 exact qan
theorem aJ.qay(h:Zp:=by
 unfold PtC;have e:V _:=ao;clear ao;go_enter func145,ntmps145;go_wp2_with fail;rw[aS.o];clear ay bc bd bg Z s aS;refine fC (MN ad xaa hj e.o ?_);exact no_implicit_lambda% xan):Zp:=h
open aJ in
theorem KU(H:MvH w cap base ag i vs ⟨11,Q,(j:Int),r,u,X⟩)(hj:j<vs.length)(ao:(vs.getD j hM).len=l):PtC w N ab m1 ae cap m3 ak base ag i vs 0 d ([eL 12 l d 0 u],((vs.length:Nat):Int)) true:=by
 exact qax
end
section
theorem N3(w N ab m1 ae cap m3 ak base ag i vs v l k d)(h:w.ownsRow base 53 6 (hH ag vs.length cap) vs.length (fQ vs))(hb:base<=w.heap.size)(hn:vs.length<=800000)(hi:i<vs.length)(aL:At w ag (i*6) v)
  (bZ:0<=v.op/\v.op<=13) (O:k<cnt v.op) (ao:(v.op=9\/v.op=11)->∃j:Nat,v.a=(j:Int)/\j<vs.length/\(vs.getD j hM).len=l):
  Calls prog 145 #[eZ N m1 ae (some ⟨ag,0,none⟩) vs.length cap ab m3 ak,hI i,hI k,hI d] w λe J=>PtP w N m1 ae ab m3 ak vs base (some ag) (ptM (i:Int) v l k d vs.length) (pq v k) e J:=by
 obtain⟨o,Q,y,r,u,X⟩:=v;have H:MvH w _ _ _ i _ _:=⟨h,hb,hn,hi,aL⟩
 clear h hb hn hi aL;simp only at bZ O ao;have ai:o=2\/o=3\/o=4\/o=5\/o=6\/o=7\/o=8\/o=9\/o=10\/o=11\/o=12\/o=13:=by grind [cnt]
 rcases ai with rfl|rfl|rfl|rfl|rfl|rfl|rfl|rfl|rfl|rfl|rfl|rfl
 ·have e:ptM i ⟨2,Q,y,r,u,X⟩ l k d vs.length=([],d):=by simp[ptM,nw,pq]
  rw[e,show pq _ k=true by simp[pq]];exact MZ H
 ·rcases (by have:cnt 3=2:=rfl;omega:k=0\/k=1) with rfl|rfl
  ·exact JA H
  exact JB H
 ·have e:ptM i ⟨4,Q,y,r,u,X⟩ l k d vs.length=([eL 4 Q d (fld ⟨4,Q,y,r,u,X⟩ (1-k)) 0],(vs.length:Int)):=by
   rcases (by have:cnt 4=2:=rfl;omega:k=0\/k=1) with rfl|rfl<;>rfl
  rw[e,show pq _ k=true by simp[pq]];exact M6 H O rfl
 ·rcases (by have:cnt 5=2:=rfl;omega:k=0\/k=1) with rfl|rfl
  ·exact JD H
  exact JE H
 ·obtain rfl:k=0:=by have:cnt 6=1:=rfl;omega
  exact M0 H
 ·rcases (by have:cnt 7=2:=rfl;omega:k=0\/k=1) with rfl|rfl
  ·exact Kl H
  exact Km H
 ·rcases (by have:cnt 8=3:=rfl;omega:k=0\/k=1\/k=2) with rfl|rfl|rfl
  ·exact JC H
  ·exact Kn H
  exact Ko H
 ·obtain rfl:k=0:=by have:cnt 9=1:=rfl;omega
  obtain⟨j,rfl,hj,ah⟩:=ao (.inl rfl);exact N2 H hj ah
 ·obtain rfl:k=0:=by have:cnt 10=1:=rfl;omega
  exact KT H
 ·obtain rfl:k=0:=by have:cnt 11=1:=rfl;omega
  obtain⟨j,rfl,hj,ah⟩:=ao (.inr rfl);exact KU H hj ah
 ·obtain rfl:k=0:=by have:cnt 12=1:=rfl;omega
  exact Na H
 obtain rfl:k=0:=by have:cnt 13=1:=rfl;omega
 exact M7 H
