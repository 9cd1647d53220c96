import Derived.Test.YtdpbpcnldpkljaaGreatP21
namespace Go.Proofs.Z
open Tryz
set_option maxRecDepth 1000000
set_option maxHeartbeats 0
section
open Go.RowKit Flt
variable {v:Vl} {w w1 w2 w3 W':World} {q P Mb n1 e1 n3 base e3 cap cap' l h':Nat} {xs mv ins outs:List Int} {b1 b3 a2 a2':Option Addr} {R' R:Option Nat} {vs vs2:List Vl}
theorem hH {p:Prop}[Decidable p]{a b:List Vl×Int}(ha:-1<=a.2)(hb:-1<=b.2):-1<=(if p then a else b).2:=by
 by_cases h:p
 ·rw[if_pos h];exact ha
 ·rw[if_neg h];exact hb
theorem EN (n d p q:Int)(N:Nat):-1<=(chM n d p q N).2:=by
 unfold chM
 exact hH (hH (by simp only;omega) (by simp only;omega)) (hH (by simp only;omega) (by simp only;omega))
theorem FO (i:Int)(v:Vl)(ta tb tc:Int)(N:Nat)(ra:-1<=ta)(rb:-1<=tb):-1<=(mvM i v ta tb tc N).2:=by
 have z:∀{l:List Vl},-1<=(l,(-1:Int)).2:=by simp
 have n:∀{l:List Vl} {m:Nat},-1<=(l,(m:Int)).2:=by intro l m;simp only;omega
 unfold mvM s8 s9 th tr
 exact hH z (hH (hH rb (hH ra n)) (hH (hH ra (hH n n)) (hH (hH (hH z n) (hH n n)) (hH (hH (hH z n) (hH n n)) (hH (EN _ _ _ _ _) (hH (hH z (EN _ _ _ _ _)) (hH n n)))))))
theorem uR {j:Nat}(h:∀i,-1<=mv.getD i 0):-1<=ovs v mv q j:=by
 unfold ovs;split
 ·exact h _
 ·omega
theorem rQ (vs:List Vl)(x t:Nat):∀k i,-1<=(jst vs x t k).2.getD i 0
 |0,i=>by
  unfold jst
  rw[yah,List.getElem?_set]
  split
  ·split
   ·simp only[Option.getD_some];omega
   ·simp
  ·rw[List.getElem?_replicate]
   split<;>simp
 |k+1,i=>by
  have IH:=rQ vs x t k
  unfold jst
  simp only
  rw[yah,List.getElem?_set]
  split
  ·split
   ·simp only[Option.getD_some]
    unfold jmv
    exact FO _ _ _ _ _ _ (uR IH) (uR IH)
   ·simp
  ·rw[<-yah]
   exact IH i
theorem wb (vs:List Vl)(x t:Nat):∀k i,x+k<i->i<vs.length->(jst vs x t k).2.getD i 0=-1
 |0,i,h,hi=>by
  unfold jst
  rw[yah,List.getElem?_set,if_neg xaa,List.getElem?_replicate,if_pos hi]
  rfl
 |k+1,i,h,hi=>by
  unfold jst
  simp only
  rw[yah,List.getElem?_set,if_neg xaa,<-yah]
  exact wb vs x t k i xaa hi
theorem zv {i:Nat}{y:Int}(h:xs.getD i 0=y)(hi:i<xs.length):xs.set i y=xs:=by
 rw[yah,yal hi] at h
 simp only[Option.getD_some] at h
 subst h
 exact List.set_getElem_self hi
theorem zw (vs:List Vl)(x t k:Nat)(hi:x+1+k<vs.length)(h:∀j,j<cnt (vs.getD (x+1+k) Vl.zero).op->(jst vs x t k).2.getD (fld (vs.getD (x+1+k) Vl.zero) j).toNat 0=-1):jst vs x t (k+1)=jst vs x t k:=by
 have e:∀j,ovs (vs.getD (x+1+k) Vl.zero) (jst vs x t k).2 (cnt (vs.getD (x+1+k) Vl.zero).op) j=-1:=λj=>by
  unfold ovs;split
  ·exact h j (by assumption)
  ·rfl
 have e2:jmv vs (x+1+k) (jst vs x t k)=([],-1):=by
  unfold jmv mvM
  rw[e 0,e 1,e 2,if_pos ⟨rfl,rfl,rfl⟩]
 conv=>lhs;unfold jst
 rw[e2]
 simp only[List.append_nil]
 rw[zv (wb vs x t k _ xaa hi) (by rw[oK];exact hi)]
def nG (v:Vl)(mv:List Int)(q:Nat):Bool:=(List.range q).any λj=>decide (0<=mv.getD (fld v j).toNat 0)
theorem xA (v:Vl)(mv:List Int)(q:Nat):nG v mv (q+1)=(nG v mv q||decide (0<=mv.getD (fld v q).toNat 0)):=by
 unfold nG;rw[List.range_succ,List.any_append];simp
theorem uS (h:nG v mv q=false)(hg:∀i,-1<=mv.getD i 0):∀j,j<q->mv.getD (fld v j).toNat 0=-1:=λj hj=>by
 unfold nG at h
 rw[List.any_eq_false] at h
 have h1:=h j (List.mem_range.2 hj)
 have h2:=hg (fld v j).toNat
 have h3:¬(0<=mv.getD (fld v j).toNat 0):=λc=>h1 (decide_eq_true c)
 omega
theorem xB (h:nG v mv (cnt v.op)=true):¬(ovs v mv (cnt v.op) 0=-1/\ovs v mv (cnt v.op) 1=-1/\ovs v mv (cnt v.op) 2=-1):=by
 rintro⟨h0,h1,h2⟩
 unfold nG at h
 rw[List.any_eq_true] at h
 obtain⟨j,hj,hd⟩:=h
 have hj':=List.mem_range.1 hj
 have hd':=of_decide_eq_true hd
 have hc:=gX v.op
 have e:ovs v mv (cnt v.op) j=mv.getD (fld v j).toNat 0:=by unfold ovs;rw[if_pos hj']
 rcases (by omega:j=0\/j=1\/j=2) with rfl|rfl|rfl
 ·rw[e] at h0;omega
 ·rw[e] at h1;omega
 ·rw[e] at h2;omega
theorem SG.put2 {m1 m3:Nat}(h:SG w P b1 m1 e1 b3 m3 e3 vs base R a2 cap)(k:Kept 0 0 w w1)
  (own:w2.ownsRow base 35 6 (.slice a2' vs2.length cap') vs2.length (fp vs2)) (row:(Value.slice a2' vs2.length cap').ownBlock=R') (s:StQ (λ_=>False) R w1 R' w2) (k2:Kept l h' w2 w3) (hl:w.heap.size<=l) (hR:∀g,R'=some g->g<l\/h'<=g):
  SG (fe w3 P (.slice b1 m1 e1) (.slice a2' vs2.length cap') (.slice b3 m3 e3)) P b1 m1 e1 b3 m3 e3 vs2 base R' a2' cap'/\StQ (λi=>i=P) R w R' (fe w3 P (.slice b1 m1 e1) (.slice a2' vs2.length cap') (.slice b3 m3 e3)):=by
 have hlt:=h.lt
 have hsz:=k.size
 have hne:R'≠some P:=by
  rcases s.row with e|⟨r,e,hr⟩
  ·rw[e];exact h.ne
  ·rw[e];intro c;cases c;omega
 have hb:w2.heap[P]? =w1.heap[P]?:=s.chg.block P xaa (by rintro (c|c);exact c;exact h.ne c)
 have hlt2:P<w2.heap.size:=by have:=s.chg.size;omega
 have hb3:w3.heap[P]? =w1.heap[P]?:=(k2.block P hlt2 xaa).trans hb
 have e:∀o,w3.cell? ⟨P,o,none⟩=w.cell? ⟨P,o,none⟩:=λo=>(World.cell?_of_block (w:=w1) (a:=⟨P,o,none⟩) hb3).trans (k.cell (p:=⟨P,o,none⟩) h.lt xaa)
 have ef:∀o,w3.frozen? ⟨P,o,none⟩=w.frozen? ⟨P,o,none⟩:=λo=>(World.frozen?_of_block (w:=w1) (a:=⟨P,o,none⟩) hb3).trans (k.frozen (p:=⟨P,o,none⟩) h.lt xaa)
 obtain⟨y0,y1,y2⟩:=eY w3 P _ _ _ ((e 0).trans h.c0) ((e 1).trans h.c1) ((e 2).trans h.c2) (.slice b1 m1 e1) (.slice a2' vs2.length cap') (.slice b3 m3 e3)
 have kp:=fc w3 P (.slice b1 m1 e1) (.slice a2' vs2.length cap') (.slice b3 m3 e3)
 have nB:(Value.slice a2' vs2.length cap').ownBlock≠some P:=by rw[row];exact hne
 refine⟨⟨?_,λo=>?_,y0,y1,y2,eH (eH (eH (fK own k2 (λg hg=>hR g (row ▸ hg))) nB) nB) nB,row,hne,?_⟩,⟨?_,?_,?_,?_,λi hi hn=>?_⟩,?_⟩
 ·have:=kp.size;have:=s.chg.size;have:=k2.size;unfold fe;omega
 ·unfold fe;simp[ef o,h.free o]
 ·have:=kp.size;have:=s.chg.size;have:=h.sz;have:=k2.size;unfold fe;omega
 ·exact kp.os.trans (k2.os.trans (s.chg.os.trans k.os))
 ·exact kp.tape.trans (k2.tape.trans (s.chg.tape.trans k.tape))
 ·exact kp.output.trans (k2.output.trans (s.chg.output.trans k.output))
 ·have:=kp.size;have:=s.chg.size;have:=k2.size;unfold fe;omega
 ·unfold fe
  have z1:=s.chg.size
  have z2:=k2.size
  rw[kp.block i xaa (λc=>hn (.inl xaa)),k2.block i xaa xaa,s.chg.block i xaa (by rintro (c|c);exact c;exact hn (.inr c))]
  exact k.block i hi xaa
 ·exact xja
theorem oL {e size n:Nat}{v:Value}{xs:List Value}{W:World}(o:W.ownsRow base e size v n xs)(s:StQ (λi=>i=P) R W R' W')(hP:v.ownBlock≠some P)(hR:∀g,v.ownBlock=some g->R≠some g):W'.ownsRow base e size v n xs:=by
 refine⟨o.1,o.2.imp id ?_⟩
 rintro⟨g,cap,cur,e1,b1,b2,b3⟩
 refine⟨g,cap,cur,e1,b1,?_,b3⟩
 have hg:g<W.heap.size:=by
  exact xbf
 have hb:v.ownBlock=some g:=by rw[e1];rfl
 rw[s.chg.block g hg (by rintro (c|c);exact hP (by rw[hb,c]);exact hR g hb c)]
 exact b2
theorem IR.stq {W:World}{B:Nat}(h:IR W B xs)(s:StQ (λi=>i=P) R W R' W')(hP:B≠P)(hR:R≠some B):IR W' B xs:=by
 unfold IR
 rw[s.chg.block B h.lt (by rintro (c|c);exact hP c;exact hR c)]
 exact h
structure LJ (w W:World)(Mb:Nat)(b1:Option Addr)(n1 e1:Nat)(b3:Option Addr)(n3 e3:Nat)(ins outs:List Int)(vs:List Vl)(mv:List Int)(base:Nat)(R:Option Nat)(a2:Option Addr)(cap:Nat):Prop where
 g:SG W w.heap.size b1 n1 e1 b3 n3 e3 vs base R a2 cap
 b:RB W (w.heap.size+1) (.slice none 0 0) (.slice none 0 0) (.slice none 0 0)
 m:IR W Mb mv
 i:W.ownsRow base 3 1 (.slice b1 n1 e1) n1 (ins.map (Value.int .i64))
 o:W.ownsRow base 3 1 (.slice b3 n3 e3) n3 (outs.map (Value.int .i64))
 k:Kept 0 0 w W
 hb:w.heap.size+1+1<=base
 dM:base<=Mb
 rM:R≠some Mb
 a1:Apart (.slice b1 n1 e1) (.slice a2 vs.length cap)
 a3:Apart (.slice b3 n3 e3) (.slice a2 vs.length cap)
 a4:Apart (.slice b1 n1 e1) (.slice b3 n3 e3)
 m1:(Value.slice b1 n1 e1).ownBlock≠some Mb
 m3:(Value.slice b3 n3 e3).ownBlock≠some Mb
theorem LJ.keep {W:World}(h:LJ w W Mb b1 n1 e1 b3 n3 e3 ins outs vs mv base R a2 cap)(k:Kept 0 0 W W'):LJ w W' Mb b1 n1 e1 b3 n3 e3 ins outs vs mv base R a2 cap:=
 {h with g:=h.g.keep k,b:=h.b.keep k,m:=h.m.keep k yaa,i:=eO h.i k,o:=eO h.o k,k:=h.k.trans k}
theorem LJ.set {W:World}(h:LJ w W Mb b1 n1 e1 b3 n3 e3 ins outs vs mv base R a2 cap)(j:Nat)(r:Int):LJ w (W.setCell ⟨Mb,j,none⟩ (.int .i64 r)) Mb b1 n1 e1 b3 n3 e3 ins outs vs (mv.set j r) base R a2 cap:=by
 have hP:Mb≠w.heap.size:=by have:=h.hb;have:=h.dM;omega
 have hQ:Mb≠w.heap.size+1:=by have:=h.hb;have:=h.dM;omega
 have c:∀B o,Mb≠B->(W.setCell ⟨Mb,j,none⟩ (.int .i64 r)).cell? ⟨B,o,none⟩=W.cell? ⟨B,o,none⟩:=λB o hB=>eW _ _ _ _ _ _ (.inl hB)
 obtain⟨bz,t0,t1,t2,x0,x1,x2⟩:=h.b
 exact {
  g:=⟨by simpa using h.g.lt,λo=>by simp[h.g.free o],by rw[c _ _ hP];exact h.g.c0,by rw[c _ _ hP];exact h.g.c1,by rw[c _ _ hP];exact h.g.c2,eH h.g.own (by rw[h.g.row];exact h.rM),h.g.row,h.g.ne,by simpa using h.g.sz⟩
  b:=⟨by simpa using bz,by rw[c _ _ hQ];exact t0,by rw[c _ _ hQ];exact t1,by rw[c _ _ hQ];exact t2,by simp[x0],by simp[x1],by simp[x2]⟩
  m:=h.m.set j r
  i:=eH h.i h.m1
  o:=eH h.o h.m3
  k:=o9 w W h.k Mb j _ (by have:=h.hb;have:=h.dM;omega)
  hb:=h.hb,dM:=h.dM,rM:=h.rM,a1:=h.a1,a3:=h.a3,a4:=h.a4,m1:=h.m1,m3:=h.m3}
theorem LJ.step {W:World}(h:LJ w W Mb b1 n1 e1 b3 n3 e3 ins outs vs mv base R a2 cap)(k:Kept 0 0 W w1)
  (own:w2.ownsRow base 35 6 (.slice a2' vs2.length cap') vs2.length (fp vs2)) (row:(Value.slice a2' vs2.length cap').ownBlock=R') (s:StQ (λ_=>False) R w1 R' w2) (k2:Kept l h' w2 w3) (hl:W.heap.size<=l) (hR:∀g,R'=some g->g<l\/h'<=g):
  LJ w (fe w3 w.heap.size (.slice b1 n1 e1) (.slice a2' vs2.length cap') (.slice b3 n3 e3)) Mb b1 n1 e1 b3 n3 e3 ins outs vs2 mv base R' a2' cap':=by
 obtain⟨q1,q2⟩:=h.g.put2 k own row s k2 hl hR
 have hz:=k.size
 have far:∀B,B<W.heap.size->R≠some B->R'≠some B:=λB hB hR=>by
  exact xiy
 have ap:∀{b:Option Addr} {n e:Nat} {xs:List Value},W.ownsRow base 3 1 (.slice b n e) n xs->Apart (.slice b n e) (.slice a2 vs.length cap)->(∀g,(Value.slice b n e).ownBlock=some g->R≠some g)/\(Value.slice b n e).ownBlock≠some w.heap.size/\Apart (.slice b n e) (.slice a2' vs2.length cap'):=λho ha=>by
  exact xfn
 obtain⟨i1,i2,i3⟩:=ap h.i h.a1
 obtain⟨o1,o2,o3⟩:=ap h.o h.a3
 have hbQ:R≠some (w.heap.size+1):=λc=>by have:=(eG h.g.own (h.g.row.trans c)).1;have:=h.hb;omega
 exact {
  g:=q1
  b:=h.b.stq q2 xaa hbQ
  m:=h.m.stq q2 (by have:=h.hb;have:=h.dM;omega) h.rM
  i:=oL h.i q2 i2 i1
  o:=oL h.o q2 o2 o1
  k:=Chg.kept h.k q2.chg (by
   rintro i (c|c)
   ·omega
   ·have:=(eG h.g.own (h.g.row.trans c)).1;have:=h.hb;omega)
  hb:=h.hb
  dM:=h.dM
  rM:=far Mb h.m.lt h.rM
  a1:=i3
  a3:=o3
  a4:=h.a4
  m1:=h.m1
  m3:=h.m3}
end
section
open Go.RowKit Flt
attribute [local go_sem] eD eB eA
variable {w W':World} {xs act:List Bool} {Mb P g2 e1 n A e3 n3 base cap c1 c2 c3 B:Nat} {b1 b3 a2:Option Addr} {ins outs mv:List Int} {vs:List Vl} {R:Option Nat}
theorem LJ.read {W:World}{n1:Nat}(h:LJ w W Mb b1 n1 e1 b3 n3 e3 ins outs vs mv base R a2 cap)(hn:0<vs.length):
  ∃g,a2=some ⟨g,0,none⟩/\R=some g/\g<W.heap.size/\∀j,j<vs.length->At W g (j*6) (vs.getD j Vl.zero):=by
 exact xhf
theorem LJ.start {w1:World}{n1 n2 d1 d2 d3:Nat}{g:Obj}{u0 u1 u2:Value}(hn:vs.length=n2)
  (hG:G0 ((w.alloc g).alloc eZ) w.heap.size u0 u1 u2) (hf:∀o,((w.alloc g).alloc eZ).frozen? ⟨w.heap.size,o,none⟩=false) (hR:RB ((w.alloc g).alloc eZ) (w.heap.size+1) (.slice none 0 0) (.slice none 0 0) (.slice none 0 0)) (k:Kept 0 0 ((w.alloc g).alloc eZ) w1)
  (o1:w1.ownsRow ((w.alloc g).alloc eZ).heap.size 3 1 (.slice b1 n1 d1) n1 (ins.map (Value.int .i64))) (o2:w1.ownsRow ((w.alloc g).alloc eZ).heap.size 35 6 (.slice a2 n2 d2) n2 (fp vs)) (o3:w1.ownsRow ((w.alloc g).alloc eZ).heap.size 3 1 (.slice b3 n3 d3) n3 (outs.map (Value.int .i64)))
  (q1:Apart (.slice a2 n2 d2) (.slice b1 n1 d1)) (q2:Apart (.slice a2 n2 d2) (.slice b3 n3 d3)) (q3:Apart (.slice b1 n1 d1) (.slice b3 n3 d3)):
  ∀W',IR W' (fe w1 w.heap.size (.slice b1 n1 d1) (.slice a2 n2 d2) (.slice b3 n3 d3)).heap.size (List.replicate n2 0)->Kept 0 0 (fe w1 w.heap.size (.slice b1 n1 d1) (.slice a2 n2 d2) (.slice b3 n3 d3)) W'->
   LJ w W' (fe w1 w.heap.size (.slice b1 n1 d1) (.slice a2 n2 d2) (.slice b3 n3 d3)).heap.size b1 n1 d1 b3 n3 d3 ins outs vs (List.replicate n2 0) ((w.alloc g).alloc eZ).heap.size (Value.slice a2 n2 d2).ownBlock a2 d2:=by
 intro W' hI kW
 have hz:((w.alloc g).alloc eZ).heap.size=w.heap.size+1+1:=by simp
 have kp:=fc w1 w.heap.size (.slice b1 n1 d1) (.slice a2 n2 d2) (.slice b3 n3 d3)
 have kk:=hG.keep k
 obtain⟨y0,y1,y2⟩:=eY w1 w.heap.size _ _ _ kk.q0 kk.q1 kk.q2 (.slice b1 n1 d1) (.slice a2 n2 d2) (.slice b3 n3 d3)
 have key:∀{e size n:Nat} {v:Value} {xs:List Value},w1.ownsRow ((w.alloc g).alloc eZ).heap.size e size v n xs->W'.ownsRow ((w.alloc g).alloc eZ).heap.size e size v n xs/\(∀B,v.ownBlock=some B->w.heap.size+1+1<=B/\B<w1.heap.size):=λh=>
  ⟨eO (fK h kp (λb hb=>by have:=(eG h hb).1;omega)) kW,λB hB=>by have:=eG h hB;omega⟩
 obtain⟨p1,r1⟩:=key o1
 obtain⟨p2,r2⟩:=key o2
 obtain⟨p3,r3⟩:=key o3
 have kn:Kept 0 0 w ((w.alloc g).alloc eZ):=(ez 0 0 w _).trans (ez 0 0 _ _)
 have hsz:w.heap.size<(fe w1 w.heap.size (.slice b1 n1 d1) (.slice a2 n2 d2) (.slice b3 n3 d3)).heap.size:=yaj kk.sz kp.size
 have hP:∀o,W'.cell? ⟨w.heap.size,o,none⟩=(fe w1 w.heap.size (.slice b1 n1 d1) (.slice a2 n2 d2) (.slice b3 n3 d3)).cell? ⟨w.heap.size,o,none⟩:=λo=>kW.cell (p:=⟨w.heap.size,o,none⟩) hsz xaa
 have hRB:RB W' (w.heap.size+1) (.slice none 0 0) (.slice none 0 0) (.slice none 0 0):=by
  obtain⟨bz,t0,t1,t2,x0,x1,x2⟩:=hR.keep k
  refine RB.keep ?_ kW
  exact xcb
 have z1:=k.size
 have z2:=kp.size
 subst hn
 exact {
  g:=⟨yaj hsz kW.size,λo=>by
    rw[kW.frozen (p:=⟨w.heap.size,o,none⟩) hsz xaa]
    unfold fe
    simp[k.frozen (p:=⟨w.heap.size,o,none⟩) hG.sz xaa,hf o],by rw[hP];exact y0,by rw[hP];exact y1,by rw[hP];exact y2,p2,rfl,λc=>by have:=r2 _ c;omega,by
    have:=kW.size
    have:(fe w1 w.heap.size (.slice b1 n1 d1) (.slice a2 vs.length d2) (.slice b3 n3 d3)).heap.size≥w1.heap.size:=z2
    omega⟩
  b:=hRB
  m:=hI
  i:=p1
  o:=p3
  k:=(Kept.new (kn.trans k) kp yad).trans kW
  hb:=xaa
  dM:=by
   have:(fe w1 w.heap.size (.slice b1 n1 d1) (.slice a2 vs.length d2) (.slice b3 n3 d3)).heap.size≥w1.heap.size:=z2
   omega
  rM:=λc=>by
   have:=(r2 _ c).2
   have:(fe w1 w.heap.size (.slice b1 n1 d1) (.slice a2 vs.length d2) (.slice b3 n3 d3)).heap.size≥w1.heap.size:=z2
   omega
  a1:=λB h1 h2=>q1 B h2 h1
  a3:=λB h1 h2=>q2 B h2 h1
  a4:=q3
  m1:=λc=>by
   have:=(r1 _ c).2
   have:(fe w1 w.heap.size (.slice b1 n1 d1) (.slice a2 vs.length d2) (.slice b3 n3 d3)).heap.size≥w1.heap.size:=z2
   omega
  m3:=λc=>by
   have:=(r3 _ c).2
   have:(fe w1 w.heap.size (.slice b1 n1 d1) (.slice a2 vs.length d2) (.slice b3 n3 d3)).heap.size≥w1.heap.size:=z2
   omega}
structure Oth (w:World)(Mb:Nat)(b1:Option Addr)(n1 e1:Nat)(b3:Option Addr)(n3 e3:Nat)(R:Option Nat)(B:Nat):Prop where
 p:w.heap.size+1+1<=B
 m:Mb≠B
 r:R≠some B
 i:(Value.slice b1 n1 e1).ownBlock≠some B
 o:(Value.slice b3 n3 e3).ownBlock≠some B
theorem LJ.oth {W:World}{n1:Nat}(h:LJ w W Mb b1 n1 e1 b3 n3 e3 ins outs vs mv base R a2 cap)(hB:W.heap.size<=B):Oth w Mb b1 n1 e1 b3 n3 e3 R B where
 p:=by have:=h.b.sz;omega
 m:=by have:=h.m.lt;omega
 r:=λc=>by have:=(eG h.g.own (h.g.row.trans c)).2;omega
 i:=λc=>by have:=(eG h.i c).2;omega
 o:=λc=>by have:=(eG h.o c).2;omega
theorem LJ.other {W:World}{n1:Nat}(h:LJ w W Mb b1 n1 e1 b3 n3 e3 ins outs vs mv base R a2 cap)(t:Oth w Mb b1 n1 e1 b3 n3 e3 R B)(j:Nat)(u:Value):LJ w (W.setCell ⟨B,j,none⟩ u) Mb b1 n1 e1 b3 n3 e3 ins outs vs mv base R a2 cap:=by
 have hp:=t.p
 have c:∀X o,B≠X->(W.setCell ⟨B,j,none⟩ u).cell? ⟨X,o,none⟩=W.cell? ⟨X,o,none⟩:=λX o hX=>eW _ _ _ _ _ _ (.inl hX)
 obtain⟨bz,t0,t1,t2,x0,x1,x2⟩:=h.b
 exact {
  g:=⟨by simpa using h.g.lt,λo=>by simp[h.g.free o],by rw[c _ _ xaa];exact h.g.c0,by rw[c _ _ xaa];exact h.g.c1,by rw[c _ _ xaa];exact h.g.c2,eH h.g.own (by rw[h.g.row];exact t.r),h.g.row,h.g.ne,by simpa using h.g.sz⟩
  b:=⟨by simpa using bz,by rw[c _ _ xaa];exact t0,by rw[c _ _ xaa];exact t1,by rw[c _ _ xaa];exact t2,by simp[x0],by simp[x1],by simp[x2]⟩
  m:=by
   unfold IR
   rw[Below.heap_setCell W ⟨B,j,none⟩ u Mb t.m]
   exact h.m
  i:=eH h.i t.i
  o:=eH h.o t.o
  k:=o9 w W h.k B j _ xaa
  hb:=h.hb,dM:=h.dM,rM:=h.rM,a1:=h.a1,a3:=h.a3,a4:=h.a4,m1:=h.m1,m3:=h.m3}
theorem ir3 (w:World)(a b c:Int):IR (w.alloc (.cells #[.int .i64 a,.int .i64 b,.int .i64 c] 3)) w.heap.size [a,b,c]:=by
 unfold IR
 rw[heap_alloc_new]
 rfl
theorem zx (v:Vl)(mv:List Int)(q:Nat)(hq:q<3):([ovs v mv q 0,ovs v mv q 1,ovs v mv q 2]:List Int).set q (mv.getD (fld v q).toNat 0)=[ovs v mv (q+1) 0,ovs v mv (q+1) 1,ovs v mv (q+1) 2]:=by
 rcases (by omega:q=0\/q=1\/q=2) with rfl|rfl|rfl<;>simp[ovs]
theorem zy (vs:List Vl)(x t s:Nat)(h:s≠x)(hs:s<vs.length):(jst vs x t 0).2.getD s 0=-1:=by
 unfold jst
 rw[yah,List.getElem?_set,if_neg (λc=>h c.symm),List.getElem?_replicate,if_pos hs]
 rfl
theorem LJ.fin {W:World}{n1:Nat}(h:LJ w W Mb b1 n1 e1 b3 n3 e3 ins outs vs mv base R a2 cap)(k:Kept 0 0 W W'):
  ((fe W' (w.heap.size+1) (.slice b1 n1 e1) (.slice a2 vs.length cap) (.slice b3 n3 e3)).ownsRow w.heap.size 3 1 (.slice b1 n1 e1) n1 (ins.map (Value.int .i64))/\(fe W' (w.heap.size+1) (.slice b1 n1 e1) (.slice a2 vs.length cap) (.slice b3 n3 e3)).ownsRow w.heap.size 35 6 (.slice a2 vs.length cap) vs.length (fp vs)/\(fe W' (w.heap.size+1) (.slice b1 n1 e1) (.slice a2 vs.length cap) (.slice b3 n3 e3)).ownsRow w.heap.size 3 1 (.slice b3 n3 e3) n3 (outs.map (Value.int .i64)))/\Kept 0 0 w (fe W' (w.heap.size+1) (.slice b1 n1 e1) (.slice a2 vs.length cap) (.slice b3 n3 e3)):=by
 exact xda
theorem LJ.call {w W W1:World}{Mb n1 e1 n3 e3 base cap:Nat}{b1 b3 a2:Option Addr}{ins outs mv:List Int}{vs:List Vl}{R:Option Nat}(h:LJ w W Mb b1 n1 e1 b3 n3 e3 ins outs vs mv base R a2 cap)(k:Kept 0 0 W W1)(u:Vl)(hn:vs.length<=1000000):
  Calls prog 24 #[eR b1 n1 e1 a2 vs.length cap b3 n3 e3,u.agg] W1 λe w2=>∃g' cap',e=.returned (eR b1 n1 e1 (some ⟨g',0,none⟩) (vs.length+1) cap' b3 n3 e3)/\
   (∃u,w2.cell? ⟨w.heap.size,0,none⟩=some u)/\(∃u,w2.cell? ⟨w.heap.size,1,none⟩=some u)/\(∃u,w2.cell? ⟨w.heap.size,2,none⟩=some u)/\(∀o,w2.frozen? ⟨w.heap.size,o,none⟩=false)/\
   Hid (LJ w (fe w2 w.heap.size (.slice b1 n1 e1) (.slice (some ⟨g',0,none⟩) (vs.length+1) cap') (.slice b3 n3 e3)) Mb b1 n1 e1 b3 n3 e3 ins outs (vs++[u]) mv base (some g') (some ⟨g',0,none⟩) cap'):=by
 exact xbg
theorem uT {i:Nat}(h:okV ins vs i=true):0<=(vs.getD i Vl.zero).op/\(vs.getD i Vl.zero).op<=13:=by
 by_cases h0:(vs.getD i Vl.zero).op=0
 ·omega
 ·unfold okV at h
  rw[if_neg h0] at h
  simp only[Bool.and_eq_true] at h
  by_cases c:0<=(vs.getD i Vl.zero).op/\(vs.getD i Vl.zero).op<=13
  ·exact c
  ·have:=h.2.2
   rw[qq c] at this
   cases this
theorem uU (w:World)(a1 a2 a3:Option Addr)(n1 c1 n2 c2 n3 c3:Nat)(ins:List Int)(vs:List Vl)(outs:List Int)(f:GS w a1 n1 a2 n2 a3 n3 ins vs outs)(hl:∀k,k<n2->1<=(vs.getD k Vl.zero).len/\(vs.getD k Vl.zero).len<=1000):
  Calls prog 114 #[eR a1 n1 c1 a2 n2 c2 a3 n3 c3] w λe w'=>e=.returned (.bool (!ji vs))/\Kept 0 0 w w':=by
 have hn:vs.length=n2:=f.v.len
 have ka:=ez 0 0 w (eP a1 n1 c1 a2 n2 c2 a3 n3 c3)
 by_cases h2:n2<=2000
 ·have HX:Hid _:=v8 _ a1 a2 a3 n1 c1 n2 c2 n3 c3 ins vs outs (f.keep ka) h2 hl
  have HK:Hid _:=ka
  have t1:((n2:Int)<=2000):=xaa
  by_cases hc:eX vs<=50000
  ·have e:ji vs=false:=by unfold ji;rw[yax xaa]
   rw[e]
   have t2:decide (eX vs<=50000)=true:=decide_eq_true hc
   exact xfd
  ·have e:ji vs=true:=by unfold ji;rw[decide_eq_true xaa]
   rw[e]
   have t2:decide (eX vs<=50000)=false:=yax hc
   exact xfd
 ·have e:ji vs=true:=by unfold ji;rw[decide_eq_true xaa]
  rw[e]
  have t1:¬((n2:Int)<=2000):=xaa
  clear f hl hn e
  go_enter func114,ntmps114
  go_wp2
  go_ret
  exact⟨rfl,ka⟩
def oA (act:List Bool)(v:Vl)(k:Nat):Bool:=(List.range k).any λq=>act.getD (fld v q).toNat false
theorem xC (act:List Bool)(v:Vl)(k:Nat):oA act v (k+1)=(oA act v k||act.getD (fld v k).toNat false):=by
 unfold oA;rw[List.range_succ,List.any_append];simp
theorem oM {i j:Nat}{b:Bool}(h:j≠i):(xs.set i b).getD j false=xs.getD j false:=by
 rw[yah,List.getElem?_set,if_neg (λe=>h e.symm),<-yah]
theorem tw (vs0:List Vl)(x:Nat):∀m i,x+m<i->(ij vs0 x m).getD i false=false
 |0,i,h=>by
  rw[ij,oM xaa,yah,List.getElem?_replicate]
  split<;>rfl
 |m+1,i,h=>by rw[ij,oM xaa,tw vs0 x m i xaa]
theorem xD {i:Nat}(h:xs.getD i false=false):xs.set i false=xs:=by
 by_cases hi:i<xs.length
 ·rw[yah,yal hi] at h
  simp only[Option.getD_some] at h
  rw[<-h]
  exact List.set_getElem_self hi
 ·exact List.set_eq_of_length_le xaa
structure AcS (w W:World)(P g2 n A:Nat)(b1 b3:Option Addr)(n1 c1 c2 n3 c3:Nat)(vs:List Vl)(act:List Bool):Prop where
 g:G0 W P (.slice b1 n1 c1) (.slice (some ⟨g2,0,none⟩) n c2) (.slice b3 n3 c3)
 v:VA W g2 n vs
 a:BR W A act
 k:Kept 0 0 w W
 n1:P≠A
 n2:g2≠A
 l:w.heap.size<=A
theorem AcS.keep {W:World}{n1:Nat}(h:AcS w W P g2 n A b1 b3 n1 c1 c2 n3 c3 vs act)(k:Kept 0 0 W W'):AcS w W' P g2 n A b1 b3 n1 c1 c2 n3 c3 vs act:=
 ⟨h.g.keep k,VA.keep h.v k yaa,BR.keep h.a k yaa,h.k.trans k,h.n1,h.n2,h.l⟩
theorem AcS.set {W:World}{n1:Nat}(h:AcS w W P g2 n A b1 b3 n1 c1 c2 n3 c3 vs act)(i:Nat)(b:Bool):AcS w (W.setCell ⟨A,i,none⟩ (.bool b)) P g2 n A b1 b3 n1 c1 c2 n3 c3 vs (act.set i b):=
 have k:=lB (S:=λq=>q=A) W A i (.bool b) rfl
 ⟨h.g.keepC k h.n1,h.v.keepC k h.n2,BR.set h.a i b,h.k.new (eL (lo:=A) (hi:=A+1) W ⟨A,i,none⟩ (.bool b) yac) h.l,h.n1,h.n2,h.l⟩
theorem tz (w:World)(b1 b3:Option Addr)(g2 n1 c1 n c2 n3 c3 s x:Nat)(vs:List Vl)(hV:VA w g2 n vs)(hl:n<=2000)(hs:s<n)(hx:x<n)(hop:∀j,j<n->0<=(vs.getD j Vl.zero).op/\(vs.getD j Vl.zero).op<=13)(hops:∀j,j<n->∀k,k<cnt (vs.getD j Vl.zero).op->0<=fld (vs.getD j Vl.zero) k/\fld (vs.getD j Vl.zero) k<j):
  Calls prog 149 #[eR b1 n1 c1 (some ⟨g2,0,none⟩) n c2 b3 n3 c3,.int .i64 (s:Int),.int .i64 (x:Int)] w λe w'=>∃A,e=.returned (.slice (some ⟨A,0,none⟩) n n)/\BR w' A (ij vs x (s-x))/\w.heap.size<=A/\Kept 0 0 w w':=by
 have hlt:=hV.lt
 have HLN:Hid (vs.length=n):=hV.len
 have hm:=rH n (w.alloc (eP b1 n1 c1 (some ⟨g2,0,none⟩) n c2 b3 n3 c3)) xaa
 have k1:=ez 0 0 w (eP b1 n1 c1 (some ⟨g2,0,none⟩) n c2 b3 n3 c3)
 have k2:=ez 0 0 (w.alloc (eP b1 n1 c1 (some ⟨g2,0,none⟩) n c2 b3 n3 c3)) (.cells (madeCells #[.bool false] n) 4)
 have hA:=BR.made (w.alloc (eP b1 n1 c1 (some ⟨g2,0,none⟩) n c2 b3 n3 c3)) n
 rw[show(w.alloc (eP b1 n1 c1 (some ⟨g2,0,none⟩) n c2 b3 n3 c3)).heap.size=w.heap.size+1 by simp] at hA hm
 have HA0:Hid (AcS w ((w.alloc (eP b1 n1 c1 (some ⟨g2,0,none⟩) n c2 b3 n3 c3)).alloc (.cells (madeCells #[.bool false] n) 4)) w.heap.size g2 n (w.heap.size+1) b1 b3 n1 c1 c2 n3 c3 vs (List.replicate n false)):=
  ⟨(fE w _ _ _).keep k2,VA.keep hV (k1.trans k2) yaa,hA,k1.trans k2,by omega,by omega,by omega⟩
 have HA1:Hid (AcS w (((w.alloc (eP b1 n1 c1 (some ⟨g2,0,none⟩) n c2 b3 n3 c3)).alloc (.cells (madeCells #[.bool false] n) 4)).setCell ⟨w.heap.size+1,x,none⟩ (.bool true)) w.heap.size g2 n (w.heap.size+1) b1 b3 n1 c1 c2 n3 c3 vs (ij vs x 0)):=by
  have:=HA0.out.set x true
  unfold ij
  rw[HLN.out]
  exact this
 have y1:=HA0.out.g.q1
 have zA:=BR.cell HA0.out.a x (by simp;exact hx)
 have zF:=BR.free HA0.out.a x
 generalize (List.replicate n false).getD x false=zz at zA
 have hx1:(0:Int)<=(x:Int):=xaa
 have hx2:(x:Int)<(n:Int):=xaa
 have hxw:IntKind.i64.wrap ((x:Int)+1)=(x:Int)+1:=by rw[IntKind.wrap_i64];omega
 have HOP:Hid _:=hop
 have HOS:Hid _:=hops
 clear hV k1 k2 hA HA0 hop hops
 generalize (w.alloc (eP b1 n1 c1 (some ⟨g2,0,none⟩) n c2 b3 n3 c3)).alloc (.cells (madeCells #[.bool false] n) 4)=w2 at hm HA1 y1 zA zF
 go_enter func149,ntmps149
 go_wp2_with fail
 clear hm y1 zA zF
 generalize w2.setCell ⟨w.heap.size+1,x,none⟩ (.bool true)=w5 at HA1 ⊢
 generalize hAA:w.heap.size+1=A at HA1 ⊢
 clear hAA
 go_loopw [8] (λv W=>∃(i m:Nat),v=.int .i64 (i:Int)/\i=x+1+m/\m<=s-x/\Hid (AcS w W w.heap.size g2 n A b1 b3 n1 c1 c2 n3 c3 vs (ij vs x m))) (λv _=>s+1-(intOf v).toNat)
 case atStart=>exact⟨x+1,0,by go_num,rfl,Nat.zero_le _,HA1⟩
 case round=>
  obtain⟨i,m,rfl,him,hms,hN⟩:=hrel
  clear HA1
  by_cases his:i<=s
  ·have hi1:(0:Int)<=(i:Int):=xaa
   have hi2:(i:Int)<(n:Int):=xaa
   have hi3:(i:Int)<=(s:Int):=xaa
   have hin:i<n:=xaa
   obtain⟨v,hv⟩:∃v,v=vs.getD i Vl.zero:=⟨_,rfl⟩
   have HV:Hid (v=vs.getD i Vl.zero):=hv
   have HL1:Hid _:=ze v.op (by rw[hv];exact(HOP.out i hin).1) (by rw[hv];exact(HOP.out i hin).2)
   have hos:=HOS.out i hin
   rw[<-hv] at hos
   have HOSi:Hid _:=hos
   have HS0:Hid (AcS w wr w.heap.size g2 n A b1 b3 n1 c1 c2 n3 c3 vs ((ij vs x m).set i (oA (ij vs x m) v 0))):=by
    have e:(ij vs x m).set i (oA (ij vs x m) v 0)=ij vs x m:=xD (tw vs x m i xaa)
    show AcS _ _ _ _ _ _ _ _ _ _ _ _ _ _ _
    rw[e]
    exact hN.out
   have HIM:Hid (i=x+1+m/\m<=s-x):=⟨him,hms⟩
   have HAL:Hid ((ij vs x m).length=n):=by show _=_;rw[lC,HLN.out]
   have HNX:Hid (ij vs x (m+1)=(ij vs x m).set i (oA (ij vs x m) v (cnt v.op))):=by
    show _=_
    rw[ij,<-him,<-hv]
    rfl
   generalize ij vs x m=act at HS0 HAL HNX
   have hiw:IntKind.i64.wrap ((i:Int)+1)=(i:Int)+1:=by rw[IntKind.wrap_i64];omega
   clear hN him hms hv hos
   go_wp2_with fail
   go_loopw [9] (λu W=>∃k:Nat,k<=cnt v.op/\u=.int .i64 (k:Int)/\Hid (AcS w W w.heap.size g2 n A b1 b3 n1 c1 c2 n3 c3 vs (act.set i (oA act v k)))) (λu _=>cnt v.op-(intOf u).toNat)
   case atStart=>exact⟨0,Nat.zero_le _,rfl,HS0⟩
   case round=>
    obtain⟨k,hk,rfl,hS⟩:=hrel
    clear HS0
    have y1:=hS.out.g.q1
    have hat:=hS.out.v.at_ i hin
    rw[<-HV.out] at hat
    obtain⟨z0,z1,z2,z3,z4,z5⟩:=hat
    by_cases hlt:k<cnt v.op
    ·obtain⟨o,ho,hoi⟩:∃o:Nat,fld v k=(o:Int)/\o<i:=by
      have:=HOSi.out k hlt
      exact⟨(fld v k).toNat,by omega,by omega⟩
     have hc3:=gX v.op
     have HFD:Hid (∀W,Calls prog 37 #[v.agg,.int .i64 (k:Int)] W λe w'=>e=.returned (.int .i64 (o:Int))/\Kept 0 0 W w'):=λW=>by rw[<-ho];exact kR W v k xaa
     have zA:=BR.cell hS.out.a o (by rw[List.length_set,HAL.out];omega)
     rw[oM xaa] at zA
     have HNA:Hid (oA act v (k+1)=(oA act v k||act.getD o false)):=by
      show _=_
      rw[xC,ho]
      rfl
     have HNX':Hid _:=HNX.out
     have hk2:(k:Int)<(cnt v.op:Int):=xaa
     have o1:(0:Int)<=(o:Int):=xaa
     have o2:(o:Int)<(n:Int):=xaa
     have hkw:IntKind.i64.wrap ((k:Int)+1)=(k:Int)+1:=by rw[IntKind.wrap_i64];omega
     have HZA:Hid (∀W,Kept 0 0 wr W->W.cell? ⟨A,o,none⟩=some (.bool (act.getD o false))):=λW kW=>by
      rw[kW.cell (p:=⟨A,o,none⟩) hS.out.a.lt xaa];exact zA
     clear ho zA
     go_wp2_with (first|(go_at_call 36;refine yai (HL1.out _) ?_;rintro e w6 ⟨rfl,rfl⟩)|fail)
     refine yai (HFD.out wr) ?_
     rintro e w7 ⟨rfl,k7⟩
     have zA:=HZA.out w7 k7
     have HS7:Hid _:=hS.out.keep k7
     have zI:=BR.cell HS7.out.a i (by rw[List.length_set,HAL.out];omega)
     have zF:=BR.free HS7.out.a i
     generalize (act.set i (oA act v k)).getD i false=zz at zI
     clear y1 z0 z1 z2 z3 z4 z5 k7 HZA HFD hS
     cases hb:act.getD o false
     ·rw[hb] at zA
      have HR:Hid (AcS w w7 w.heap.size g2 n A b1 b3 n1 c1 c2 n3 c3 vs (act.set i (oA act v (k+1)))):=by
       show AcS _ _ _ _ _ _ _ _ _ _ _ _ _ _ _
       rw[HNA.out,hb,Bool.or_false]
       exact HS7.out
      exact xhm
     ·rw[hb] at zA
      have HR:Hid (AcS w (w7.setCell ⟨A,i,none⟩ (.bool true)) w.heap.size g2 n A b1 b3 n1 c1 c2 n3 c3 vs (act.set i (oA act v (k+1)))):=by
       have:=HS7.out.set i true
       rw[List.set_set] at this
       show AcS _ _ _ _ _ _ _ _ _ _ _ _ _ _ _
       rw[HNA.out,hb,Bool.or_true]
       exact this
      exact xhm
    ·have hk2:¬((k:Int)<(cnt v.op:Int)):=xaa
     have hke:k=cnt v.op:=xaa
     have HR:Hid (AcS w wr w.heap.size g2 n A b1 b3 n1 c1 c2 n3 c3 vs (ij vs x (m+1))):=by
      show AcS _ _ _ _ _ _ _ _ _ _ _ _ _ _ _
      rw[HNX.out,<-hke]
      exact hS.out
     clear hS hke
     go_wp2_with (first|(go_at_call 36;refine yai (HL1.out _) ?_;rintro e w6 ⟨rfl,rfl⟩)|fail)
     clear y1 z0 z1 z2 z3 z4 z5
     go_roundw
     case rel=>exact⟨i+1,m+1,by go_num,by have:=HIM.out;omega,by have:=HIM.out;omega,HR⟩
     case measure=>simp[intOf];omega
  ·have hms2:m=s-x:=xaa
   have hi3:¬((i:Int)<=(s:Int)):=xaa
   have HN1:Hid _:=hN.out
   clear hN him
   go_wp2_with fail
   go_ret
   rw[<-hms2]
   exact⟨A,rfl,HN1.out.a,HN1.out.l,HN1.out.k⟩
end
section
open Go.RowKit Flt
variable {w w1 W':World} {sl ins outs mv:List Int} {n Mb n1 A e1 n3 e3 base cap cap' B:Nat} {st:List Vl×List Int} {act:List Bool} {b1 b3 a2 a2':Option Addr} {vs vs2:List Vl} {R R':Option Nat}
structure LK (w W:World)(b1:Option Addr)(n1 e1:Nat)(b3:Option Addr)(n3 e3:Nat)(ins outs:List Int)(vs:List Vl)(base:Nat)(R:Option Nat)(a2:Option Addr)(cap:Nat):Prop where
 g:SG W w.heap.size b1 n1 e1 b3 n3 e3 vs base R a2 cap
 b:RB W (w.heap.size+1) (.slice none 0 0) (.slice none 0 0) (.slice none 0 0)
 i:W.ownsRow base 3 1 (.slice b1 n1 e1) n1 (ins.map (Value.int .i64))
 o:W.ownsRow base 3 1 (.slice b3 n3 e3) n3 (outs.map (Value.int .i64))
 k:Kept 0 0 w W
 hb:w.heap.size+1+1<=base
 a1:Apart (.slice b1 n1 e1) (.slice a2 vs.length cap)
 a3:Apart (.slice b3 n3 e3) (.slice a2 vs.length cap)
 a4:Apart (.slice b1 n1 e1) (.slice b3 n3 e3)
theorem LK.keep {W:World}(h:LK w W b1 n1 e1 b3 n3 e3 ins outs vs base R a2 cap)(k:Kept 0 0 W W'):LK w W' b1 n1 e1 b3 n3 e3 ins outs vs base R a2 cap:=
 {h with g:=h.g.keep k,b:=h.b.keep k,i:=eO h.i k,o:=eO h.o k,k:=h.k.trans k}
structure Farb (w:World)(b1:Option Addr)(n1 e1:Nat)(b3:Option Addr)(n3 e3:Nat)(R:Option Nat)(B:Nat):Prop where
 p:w.heap.size+1+1<=B
 r:R≠some B
 i:(Value.slice b1 n1 e1).ownBlock≠some B
 o:(Value.slice b3 n3 e3).ownBlock≠some B
theorem LK.far {W:World}(h:LK w W b1 n1 e1 b3 n3 e3 ins outs vs base R a2 cap)(hB:W.heap.size<=B):Farb w b1 n1 e1 b3 n3 e3 R B where
 p:=by have:=h.b.sz;omega
 r:=λc=>by have:=(eG h.g.own (h.g.row.trans c)).2;omega
 i:=λc=>by have:=(eG h.i c).2;omega
 o:=λc=>by have:=(eG h.o c).2;omega
theorem LK.other {W:World}(h:LK w W b1 n1 e1 b3 n3 e3 ins outs vs base R a2 cap)(t:Farb w b1 n1 e1 b3 n3 e3 R B)(j:Nat)(u:Value):LK w (W.setCell ⟨B,j,none⟩ u) b1 n1 e1 b3 n3 e3 ins outs vs base R a2 cap:=by
 have hp:=t.p
 have c:∀X o,B≠X->(W.setCell ⟨B,j,none⟩ u).cell? ⟨X,o,none⟩=W.cell? ⟨X,o,none⟩:=λX o hX=>eW _ _ _ _ _ _ (.inl hX)
 obtain⟨bz,t0,t1,t2,x0,x1,x2⟩:=h.b
 exact {
  g:=⟨by simpa using h.g.lt,λo=>by simp[h.g.free o],by rw[c _ _ xaa];exact h.g.c0,by rw[c _ _ xaa];exact h.g.c1,by rw[c _ _ xaa];exact h.g.c2,eH h.g.own (by rw[h.g.row];exact t.r),h.g.row,h.g.ne,by simpa using h.g.sz⟩
  b:=⟨by simpa using bz,by rw[c _ _ xaa];exact t0,by rw[c _ _ xaa];exact t1,by rw[c _ _ xaa];exact t2,by simp[x0],by simp[x1],by simp[x2]⟩
  i:=eH h.i t.i
  o:=eH h.o t.o
  k:=o9 w W h.k B j _ xaa
  hb:=h.hb,a1:=h.a1,a3:=h.a3,a4:=h.a4}
theorem LK.step {W w2 w3:World}{l h':Nat}(h:LK w W b1 n1 e1 b3 n3 e3 ins outs vs base R a2 cap)(k:Kept 0 0 W w1)
  (own:w2.ownsRow base 35 6 (.slice a2' vs2.length cap') vs2.length (fp vs2)) (row:(Value.slice a2' vs2.length cap').ownBlock=R') (s:StQ (λ_=>False) R w1 R' w2) (k2:Kept l h' w2 w3) (hl:W.heap.size<=l) (hR:∀g,R'=some g->g<l\/h'<=g):
  LK w (fe w3 w.heap.size (.slice b1 n1 e1) (.slice a2' vs2.length cap') (.slice b3 n3 e3)) b1 n1 e1 b3 n3 e3 ins outs vs2 base R' a2' cap'/\StQ (λi=>i=w.heap.size) R W R' (fe w3 w.heap.size (.slice b1 n1 e1) (.slice a2' vs2.length cap') (.slice b3 n3 e3)):=by
 obtain⟨q1,q2⟩:=h.g.put2 k own row s k2 hl hR
 have far:∀B,B<W.heap.size->R≠some B->R'≠some B:=λB hB hR=>by
  exact xiy
 have ap:∀{b:Option Addr} {n e:Nat} {xs:List Value},W.ownsRow base 3 1 (.slice b n e) n xs->Apart (.slice b n e) (.slice a2 vs.length cap)->(∀g,(Value.slice b n e).ownBlock=some g->R≠some g)/\(Value.slice b n e).ownBlock≠some w.heap.size/\Apart (.slice b n e) (.slice a2' vs2.length cap'):=λho ha=>by
  exact xfn
 obtain⟨i1,i2,i3⟩:=ap h.i h.a1
 obtain⟨o1,o2,o3⟩:=ap h.o h.a3
 have hbQ:R≠some (w.heap.size+1):=λc=>by have:=(eG h.g.own (h.g.row.trans c)).1;have:=h.hb;omega
 exact⟨{
  g:=q1
  b:=h.b.stq q2 xaa hbQ
  i:=oL h.i q2 i2 i1
  o:=oL h.o q2 o2 o1
  k:=Chg.kept h.k q2.chg (by
   rintro i (c|c)
   ·omega
   ·have:=(eG h.g.own (h.g.row.trans c)).1;have:=h.hb;omega)
  hb:=h.hb
  a1:=i3
  a3:=o3
  a4:=h.a4},q2⟩
theorem LK.read {W:World}(h:LK w W b1 n1 e1 b3 n3 e3 ins outs vs base R a2 cap)(hn:0<vs.length):
  ∃g,a2=some ⟨g,0,none⟩/\R=some g/\g<W.heap.size/\∀j,j<vs.length->At W g (j*6) (vs.getD j Vl.zero):=by
 exact xhf
theorem LK.fin {W:World}(h:LK w W b1 n1 e1 b3 n3 e3 ins outs vs base R a2 cap)(k:Kept 0 0 W W'):
  ((fe W' (w.heap.size+1) (.slice b1 n1 e1) (.slice a2 vs.length cap) (.slice b3 n3 e3)).ownsRow w.heap.size 3 1 (.slice b1 n1 e1) n1 (ins.map (Value.int .i64))/\(fe W' (w.heap.size+1) (.slice b1 n1 e1) (.slice a2 vs.length cap) (.slice b3 n3 e3)).ownsRow w.heap.size 35 6 (.slice a2 vs.length cap) vs.length (fp vs)/\(fe W' (w.heap.size+1) (.slice b1 n1 e1) (.slice a2 vs.length cap) (.slice b3 n3 e3)).ownsRow w.heap.size 3 1 (.slice b3 n3 e3) n3 (outs.map (Value.int .i64)))/\Kept 0 0 w (fe W' (w.heap.size+1) (.slice b1 n1 e1) (.slice a2 vs.length cap) (.slice b3 n3 e3)):=by
 exact xda
theorem LK.call {w W W1:World}{n1 e1 n3 e3 base cap:Nat}{b1 b3 a2:Option Addr}{ins outs:List Int}{vs:List Vl}{R:Option Nat}(h:LK w W b1 n1 e1 b3 n3 e3 ins outs vs base R a2 cap)(k:Kept 0 0 W W1)(u:Vl)(hn:vs.length<=1000000):
  Calls prog 24 #[eR b1 n1 e1 a2 vs.length cap b3 n3 e3,u.agg] W1 λe w2=>∃g' cap',e=.returned (eR b1 n1 e1 (some ⟨g',0,none⟩) (vs.length+1) cap' b3 n3 e3)/\
   (∃u,w2.cell? ⟨w.heap.size,0,none⟩=some u)/\(∃u,w2.cell? ⟨w.heap.size,1,none⟩=some u)/\(∃u,w2.cell? ⟨w.heap.size,2,none⟩=some u)/\(∀o,w2.frozen? ⟨w.heap.size,o,none⟩=false)/\
   Hid (LK w (fe w2 w.heap.size (.slice b1 n1 e1) (.slice (some ⟨g',0,none⟩) (vs.length+1) cap') (.slice b3 n3 e3)) b1 n1 e1 b3 n3 e3 ins outs (vs++[u]) base (some g') (some ⟨g',0,none⟩) cap'/\StQ (λi=>i=w.heap.size) R W (some g') (fe w2 w.heap.size (.slice b1 n1 e1) (.slice (some ⟨g',0,none⟩) (vs.length+1) cap') (.slice b3 n3 e3))):=by
 exact xbg
structure LG (w W:World)(Mb A:Nat)(b1:Option Addr)(n1 e1:Nat)(b3:Option Addr)(n3 e3:Nat)(ins outs:List Int)(vs:List Vl)(mv:List Int)(act:List Bool)(base:Nat)(R:Option Nat)(a2:Option Addr)(cap:Nat):Prop where
 l:LK w W b1 n1 e1 b3 n3 e3 ins outs vs base R a2 cap
 m:IR W Mb mv
 a:BR W A act
 fm:Farb w b1 n1 e1 b3 n3 e3 R Mb
 fa:Farb w b1 n1 e1 b3 n3 e3 R A
 ne:Mb≠A
theorem LG.keep {W:World}(h:LG w W Mb A b1 n1 e1 b3 n3 e3 ins outs vs mv act base R a2 cap)(k:Kept 0 0 W W'):LG w W' Mb A b1 n1 e1 b3 n3 e3 ins outs vs mv act base R a2 cap:=
 ⟨h.l.keep k,h.m.keep k yaa,h.a.keep k yaa,h.fm,h.fa,h.ne⟩
theorem LG.set {W:World}(h:LG w W Mb A b1 n1 e1 b3 n3 e3 ins outs vs mv act base R a2 cap)(j:Nat)(r:Int):LG w (W.setCell ⟨Mb,j,none⟩ (.int .i64 r)) Mb A b1 n1 e1 b3 n3 e3 ins outs vs (mv.set j r) act base R a2 cap:=
 ⟨h.l.other h.fm j _,h.m.set j r,h.a.keepC (lB (S:=λq=>q=Mb) W Mb j (.int .i64 r) rfl) (λe=>h.ne e.symm),h.fm,h.fa,h.ne⟩
theorem LG.stq {W:World}(h:LG w W Mb A b1 n1 e1 b3 n3 e3 ins outs vs mv act base R a2 cap)(l:LK w W' b1 n1 e1 b3 n3 e3 ins outs vs2 base R' a2' cap')(q:StQ (λi=>i=w.heap.size) R W R' W'):LG w W' Mb A b1 n1 e1 b3 n3 e3 ins outs vs2 mv act base R' a2' cap':=by
 have far:∀{B},B<W.heap.size->Farb w b1 n1 e1 b3 n3 e3 R B->Farb w b1 n1 e1 b3 n3 e3 R' B:=λhB t=>⟨t.p,by
  rcases q.row with e|⟨r,e,hr⟩
  ·rw[e];exact t.r
  ·rw[e];intro c;cases c;omega,t.i,t.o⟩
 refine⟨l,h.m.stq q (by have:=h.fm.p;omega) h.fm.r,h.a.keepC q.chg ?_,far h.m.lt h.fm,far h.a.lt h.fa,h.ne⟩
 rintro (c|c)
 ·have:=h.fa.p;omega
 ·exact h.fa.r c
def gdn (vs:List Vl)(act:List Bool)(s:Nat):Nat->List Vl×List Int
 |0=>rO vs s
 |j+1=>giM vs act (s-j) (gdn vs act s j)
theorem pr (vs:List Vl)(act:List Bool)(s x:Nat):∀k,k<=s-x->tv vs act x (rO vs s) ((List.range k).map (λi=>(s-x)-1-i))=gdn vs act s k
 |0,_=>rfl
 |k+1,h=>by
  rw[List.range_succ,List.map_append,List.map_cons,List.map_nil,uQ,pr vs act s x k xaa,gdn]
  rw[show x+1+(s-x-1-k)=s-k by omega]
def qg (n:Nat)(act:List Bool)(sl:List Int):Prop:=∀q,q<n->sl.getD q 0=-1\/(0<=sl.getD q 0/\act.getD q false=true)
theorem FP {p:Prop}[Decidable p]{a b:List Vl×Int}(ha:0<=a.2)(hb:0<=b.2):0<=(if p then a else b).2:=by split<;>assumption
theorem FQ (i:Int)(v:Vl)(la:Int)(k:Nat)(d:Int)(N:Nat)(hd:0<=d):0<=(kS i v la k d N).2:=by
 unfold kS
 repeat' (apply FP)
 all_goals (simp only;omega)
theorem pt {o:Nat}{p:Int}(h:qg n act sl)(hl:sl.length=n)(hp:0<=p)(ha:act.getD o false=true):qg n act (sl.set o p):=λq hq=>by
 rw[yah,List.getElem?_set]
 by_cases e:o=q
 ·subst e
  rw[if_pos rfl,if_pos xaa]
  exact .inr ⟨hp,ha⟩
 ·rw[if_neg e,<-yah]
  exact h q hq
theorem Cq {i k:Nat}(h:qg n act st.2)(hl:st.2.length=n)(hd:0<=st.2.getD i 0):qg n act (gkM vs act i k st).2:=by
 unfold gkM
 split
 ·rename_i hc
  unfold j7
  split
  ·exact pt h hl (FQ _ _ _ _ _ _ hd) hc.1
  ·exact pt h hl (by simp only;omega) hc.1
 ·exact h
theorem xE {o i:Nat}{p:Int}(h:o≠i):(j7 vs o p st).2.getD i 0=st.2.getD i 0:=by
 unfold j7
 split<;>(simp only;rw[yah,List.getElem?_set,if_neg h,<-yah])
theorem Cr {i k:Nat}(h:(fld (vs.getD i Vl.zero) k).toNat≠i):(gkM vs act i k st).2.getD i 0=st.2.getD i 0:=by
 unfold gkM
 split
 ·rw[xE h]
 ·rfl
theorem pu {vs:List Vl}{act:List Bool}{i:Nat}{st:List Vl×List Int}:∀k,(∀q,q<k->(fld (vs.getD i Vl.zero) q).toNat≠i)->(iS vs act i st k).2.getD i 0=st.2.getD i 0
 |0,_=>rfl
 |k+1,h=>by rw[iS,Cr (h k yae),pu k (λq hq=>h q xaa)]
theorem pw {vs:List Vl}{act:List Bool}{n i:Nat}{st:List Vl×List Int}(h:qg n act st.2)(hl:st.2.length=n)(hd:0<=st.2.getD i 0):∀k,(∀q,q<k->(fld (vs.getD i Vl.zero) q).toNat≠i)->qg n act (iS vs act i st k).2
 |0,_=>h
 |k+1,hf=>Cq (pw h hl hd k (λq hq=>hf q xaa)) (by rw[mT];exact hl) (by rw[pu k (λq hq=>hf q xaa)];exact hd)
theorem Cs {i:Nat}(h:qg n act st.2)(hl:st.2.length=n)(hi:i<n)(hf:∀q,q<cnt (vs.getD i Vl.zero).op->(fld (vs.getD i Vl.zero) q).toNat≠i):qg n act (giM vs act i st).2:=by
 unfold giM
 split
 ·exact h
 ·rename_i hc
  exact pw h hl (by rcases h i hi with c|c;exact absurd c hc;exact c.1) _ hf
structure GdI (vs:List Vl)(act:List Bool)(n:Nat)(L:Nat)(C:Int)(st:List Vl×List Int):Prop where
 i:qg n act st.2
 l:st.2.length=n
 p:Pre vs st.1
 z:SzU L C st.1
theorem we {vs:List Vl}{act:List Bool}{n s:Nat}(hn:vs.length=n)(hs:s<n)(hz:SzU 2000 50000 vs)(hL:LnB vs)(ha:act.getD s false=true)(hf:∀i,i<n->∀q,q<cnt (vs.getD i Vl.zero).op->(fld (vs.getD i Vl.zero) q).toNat≠i):∀j,j<=s->GdI vs act n (2001+12*j) (51000+12000*(j:Int)) (gdn vs act s j)
 |0,_=>by
  refine⟨?_,by simp[gdn,rO,hn],⟨_,rfl⟩,?_⟩
  ·refine pt (λq hq=>.inl ?_) (by simp;exact hn) xaa ha
   rw[yah,List.getElem?_replicate,if_pos xaa]
   rfl
  ·exact(SzU.app (L':=1) (C':=1000) hz ⟨by simp,by simp[eX],by simp[eX]⟩).mono xaa xaa
 |j+1,h=>by
  have ih:=we hn hs hz hL ha hf j xaa
  exact⟨Cs ih.i ih.l xaa (hf _ xaa),by rw[gdn,Cl];exact ih.l,Ck ih.p,(FE hL ih.z).mono xaa xaa⟩
theorem kE {s q:Nat}(h:q<=s):(sl.take (s+1)).getD q 0=sl.getD q 0:=by
 rw[yah,List.getElem?_take,if_pos xaa,<-yah]
theorem nH (sl:List Int)(s o:Nat)(p:Int):(sl.take (s+1)).set o p=(sl.set o p).take (s+1):=List.take_set.symm
theorem xF (vs:List Vl)(s:Nat)(hs:s<vs.length):(List.replicate (s+1) (-1:Int)).set s (vs.length:Nat)=(rO vs s).2.take (s+1):=by
 unfold rO
 simp only
 rw[<-nH,List.take_replicate,show min (s+1) vs.length=s+1 by omega]
theorem LK.start {n2 d1 d2 d3:Nat}{g:Obj}{u0 u1 u2:Value}(hn:vs.length=n2)
  (hG:G0 ((w.alloc g).alloc eZ) w.heap.size u0 u1 u2) (hf:∀o,((w.alloc g).alloc eZ).frozen? ⟨w.heap.size,o,none⟩=false) (hR:RB ((w.alloc g).alloc eZ) (w.heap.size+1) (.slice none 0 0) (.slice none 0 0) (.slice none 0 0)) (k:Kept 0 0 ((w.alloc g).alloc eZ) w1) (hbz:w.heap.size+1+1<=base) (hbs:base<=w1.heap.size)
  (o1:w1.ownsRow base 3 1 (.slice b1 n1 d1) n1 (ins.map (Value.int .i64))) (o2:w1.ownsRow base 35 6 (.slice a2 n2 d2) n2 (fp vs)) (o3:w1.ownsRow base 3 1 (.slice b3 n3 d3) n3 (outs.map (Value.int .i64)))
  (q1:Apart (.slice a2 n2 d2) (.slice b1 n1 d1)) (q2:Apart (.slice a2 n2 d2) (.slice b3 n3 d3)) (q3:Apart (.slice b1 n1 d1) (.slice b3 n3 d3)):
  LK w (fe w1 w.heap.size (.slice b1 n1 d1) (.slice a2 n2 d2) (.slice b3 n3 d3)) b1 n1 d1 b3 n3 d3 ins outs vs base (Value.slice a2 n2 d2).ownBlock a2 d2:=by
 have kp:=fc w1 w.heap.size (.slice b1 n1 d1) (.slice a2 n2 d2) (.slice b3 n3 d3)
 have kk:=hG.keep k
 obtain⟨y0,y1,y2⟩:=eY w1 w.heap.size _ _ _ kk.q0 kk.q1 kk.q2 (.slice b1 n1 d1) (.slice a2 n2 d2) (.slice b3 n3 d3)
 have key:∀{e size n:Nat} {v:Value} {xs:List Value},w1.ownsRow base e size v n xs->(fe w1 w.heap.size (.slice b1 n1 d1) (.slice a2 n2 d2) (.slice b3 n3 d3)).ownsRow base e size v n xs/\(∀B,v.ownBlock=some B->w.heap.size+1+1<=B/\B<w1.heap.size):=λh=>
  ⟨fK h kp (λb hb=>by have:=(eG h hb).1;omega),λB hB=>by have:=eG h hB;omega⟩
 obtain⟨p1,r1⟩:=key o1
 obtain⟨p2,r2⟩:=key o2
 obtain⟨p3,r3⟩:=key o3
 have kn:Kept 0 0 w ((w.alloc g).alloc eZ):=(ez 0 0 w _).trans (ez 0 0 _ _)
 have hsz:w.heap.size<(fe w1 w.heap.size (.slice b1 n1 d1) (.slice a2 n2 d2) (.slice b3 n3 d3)).heap.size:=yaj kk.sz kp.size
 have hRB:RB (fe w1 w.heap.size (.slice b1 n1 d1) (.slice a2 n2 d2) (.slice b3 n3 d3)) (w.heap.size+1) (.slice none 0 0) (.slice none 0 0) (.slice none 0 0):=by
  obtain⟨bz,t0,t1,t2,x0,x1,x2⟩:=hR.keep k
  exact xcb
 have z2:=kp.size
 subst hn
 exact {
  g:=⟨hsz,λo=>by
    unfold fe
    simp[k.frozen (p:=⟨w.heap.size,o,none⟩) hG.sz xaa,hf o],y0,y1,y2,p2,rfl,λc=>by have:=r2 _ c;omega,yan hbs z2⟩
  b:=hRB
  i:=p1
  o:=p3
  k:=Kept.new (kn.trans k) kp yad
  hb:=hbz
  a1:=λB h1 h2=>q1 B h2 h1
  a3:=λB h1 h2=>q2 B h2 h1
  a4:=q3}
end
section
open Go.RowKit Flt
attribute [local go_sem] eD eB eA
noncomputable abbrev I1 (n:Nat):Code:=(Tryz.f128.body.bind (mn n)).getD .skip
theorem FR {w W:World}{Mb A n1 e1 n3 e3 base cap gv S1 o:Nat}{b1 b3:Option Addr}{ins outs mv:List Int}{act:List Bool}{us:List Vl}{R:Option Nat}{p q ol:Int}{K:Act->World->Prop}{b a c d f h i j k n r s t u v x y z B C D E F G H I J L M N O P Q S T U V X Y Z aa ab ad ae af ag ah ai aj ak al am an ao ap aq ar au av aw ax ay az aA aB aC aD aE aF aG aH aI aJ aK aL aM aN aO aP aQ aR aS aT aU aV aW aX aY aZ a0 a1 a2 a3 a4 a5 a6 a7 a8 a9 ba bb bc bd be bf bg bh bi bj bk bl bm bn bo bp bq br bs bt bu bv bw bx bz bA bB bC bD bE b2 b4 b5 b6 b7 b8 b9 ca cb cc cd ce cf cg bF bG bH bI bJ bK bL bM bN bO bP bQ bR bS bT bU bV bW bX bY bZ b0:Value}(HM:Hid (LG w W Mb A b1 n1 e1 b3 n3 e3 ins outs us mv act base R (some ⟨gv,0,none⟩) cap))(hbd:us.length<=900000)(ho:o<us.length)(hS:o<S1)(hm:mv.length=S1)(hol:(us.getD o Vl.zero).len=ol)(hq:mv.getD o 0=q)
  (hk:∀(W':World) (g' cap':Nat) (u133 u134 u135 u136 u137 u138 u139 u140 u141 u142 u143 u144 u145 u146:Value),Hid (LG w W' Mb A b1 n1 e1 b3 n3 e3 ins outs (us++[eI 2 ol q p 0]) mv act base (some g') (some ⟨g',0,none⟩) cap')->K ⟨#[b,a,c,.pointer (some ⟨w.heap.size,0,none⟩),d,f,h,i,j,k,.slice (some ⟨Mb,0,none⟩) S1 S1,n,r,s,.int .i64 (o:Int),t,.int .i64 p,u,v,x,y,z,B,C,D,E,F,G,H,I,J,L,M,N,O,P,Q,S,T,U,V,X,Y,Z,aa,ab,ad,ae,af,ag,ah,ai,aj,ak,al,am,an,ao,ap,aq,ar,au,av,aw,ax,ay,az,aA,aB,aC,aD,aE,aF,aG,aH,aI,aJ,aK,aL,aM,aN,aO,aP,aQ,aR,aS,aT,aU,aV,aW,aX,aY,aZ,a0,a1,a2,a3,a4,a5,a6,a7,a8,a9,ba,bb,bc,bd,be,bf,bg,bh,bi,bj,bk,bl,bm,bn,bo,bp,bq,br,bs,bt,bu,bv,bw,bx,bz,bA,bB,bC,bD,bE,u133,u134,u135,u136,u137,u138,u139,u140,u141,u142,u143,u144,u145,u146,bF,bG,bH,bI,bJ,bK,bL,bM,bN,bO,bP,bQ,bR,bS,bT,bU,bV,bW,bX,bY,bZ,b0],[]⟩ W'):
  Code.wp prog (I1 27) (Exit.then K λ_ _ _=>False) ⟨#[b,a,c,.pointer (some ⟨w.heap.size,0,none⟩),d,f,h,i,j,k,.slice (some ⟨Mb,0,none⟩) S1 S1,n,r,s,.int .i64 (o:Int),t,.int .i64 p,u,v,x,y,z,B,C,D,E,F,G,H,I,J,L,M,N,O,P,Q,S,T,U,V,X,Y,Z,aa,ab,ad,ae,af,ag,ah,ai,aj,ak,al,am,an,ao,ap,aq,ar,au,av,aw,ax,ay,az,aA,aB,aC,aD,aE,aF,aG,aH,aI,aJ,aK,aL,aM,aN,aO,aP,aQ,aR,aS,aT,aU,aV,aW,aX,aY,aZ,a0,a1,a2,a3,a4,a5,a6,a7,a8,a9,ba,bb,bc,bd,be,bf,bg,bh,bi,bj,bk,bl,bm,bn,bo,bp,bq,br,bs,bt,bu,bv,bw,bx,bz,bA,bB,bC,bD,bE,b2,b4,b5,b6,b7,b8,b9,ca,cb,cc,cd,ce,cf,cg,bF,bG,bH,bI,bJ,bK,bL,bM,bN,bO,bP,bQ,bR,bS,bT,bU,bV,bW,bX,bY,bZ,b0],[]⟩ W:=by
 have HK:Hid _:=hk
 clear hk
 have s0:=HM.out.l.g.c0
 have s1:=HM.out.l.g.c1
 have s2:=HM.out.l.g.c2
 obtain⟨gx,ex,_,_,hA⟩:=HM.out.l.read xaa
 cases ex
 have hL1:=(hA o ho).c1
 rw[hol] at hL1
 have hS1:=IR.cell HM.out.m o xaa
 rw[hq] at hS1
 have o0:(0:Int)<=(o:Int):=xaa
 have o1:(o:Int)<(us.length:Int):=xaa
 have o2:(o:Int)<(S1:Int):=xaa
 clear hol hq hA hm ho hS
 conv=>arg 2;whnf
 go_region_with (first
  |(go_at_call 24;refine yai (LK.call HM.out.l ((eC W).trans k1) (eI 2 ol q p 0) xaa) ?_;rintro e w2 ⟨g',cap',rfl,⟨u0,r0⟩,⟨u1,r1⟩,⟨u2,r2⟩,rf,hM2⟩;have rf0:=rf 0;have rf1:=rf 1;have rf2:=rf 2;have HM2:Hid _:=HM.out.stq hM2.out.1 hM2.out.2;clear rf hM2)
  |(go_at_call 26;refine yai (gj _ _ _ _ _ _) ?_;rintro e w1 ⟨rfl,k1⟩;have p0:=(LG.keep HM.out ((eC W).trans k1)).l.g.c0;have p1:=(LG.keep HM.out ((eC W).trans k1)).l.g.c1;have p2:=(LG.keep HM.out ((eC W).trans k1)).l.g.c2))
 all_goals exact HK.out _ _ _ _ _ _ _ _ _ _ _ _ _ _ _ _ _ HM2
