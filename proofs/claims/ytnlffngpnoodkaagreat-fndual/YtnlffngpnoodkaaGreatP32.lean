import Derived.Test.YtnlffngpnoodkaaGreatP31
import Derived.Test.YtnlffngpnoodkaaGreatP27
namespace Go.Proofs.YtnlffngpnoodkaaGreat
set_option maxRecDepth 1000000
set_option maxHeartbeats 0
section
open Go.RowKit Flt Ieee
variable {u v:Nat->Int}
theorem mC (u v:Nat->Int):∀n,iX (λk=>u k+v k) n=iX u n+iX v n
 |0=>rfl
 |n+1=>by rw[iX,iX,iX,mC u v n];omega
theorem qu (c:Int)(u:Nat->Int):∀n,iX (λk=>c*u k) n=c*iX u n
 |0=>by simp[iX]
 |n+1=>by rw[iX,iX,qu c u n,Int.mul_add]
theorem wT (c:Int)(u:Nat->Int)(n:Nat):iX (λk=>u k*c) n=iX u n*c:=by
 rw[Int.mul_comm,<-qu]
 exact iQ n λk _=>Int.mul_comm _ _
theorem nS (y:Int)(c:Nat):∀n,iX (λk=>if k=c then y else 0) n=if c<n then y else 0
 |0=>rfl
 |n+1=>by
  rw[iX,nS y c n]
  by_cases e:n=c
  ·subst e;simp
  ·rw[if_neg e]
   by_cases l:c<n
   ·rw[if_pos l,if_pos (by omega)];omega
   ·rw[if_neg l,if_neg (by omega)];rfl
theorem uk {f f':Nat->Int}{o:Nat}{y:Int}(m:Nat)(ho:o<m)(h:∀j,j<m->f' j=f j+if j=o then y else 0):iX f' m=iX f m+y:=by
 rw[iQ m h,mC,nS,if_pos ho]
def ld (u v:Nat->Int)(n:Nat):Int:=iX (λk=>u k*v k) n
theorem og {u' v':Nat->Int}{n:Nat}(h:∀k,k<n->u k=u' k)(h':∀k,k<n->v k=v' k):ld u v n=ld u' v' n:=
 iQ n λk hk=>by rw[h k hk,h' k hk]
theorem mD {n:Nat}(h:∀k,k<n->v k=0):ld u v n=0:=by
 unfold ld
 rw[iQ (z':=λ_=>0) n λk hk=>by rw[h k hk,Int.mul_zero],mB]
theorem yz (u u' v:Nat->Int)(n:Nat):ld (λk=>u k+u' k) v n=ld u v n+ld u' v n:=by
 unfold ld
 rw[<-mC]
 exact iQ n λk _=>Int.add_mul _ _ _
def pz (vs:List Vl)(Z:Nat->Nat->Int)(i:Nat)(d:Nat->Int)(k e:Nat):Int:=
 if (vd vs i).op=2 then d e else if (vd vs i).op=3 then (if k=0 then d e else -d e)
 else if (vd vs i).op=4 then (if k=0 then d e*Z (vd vs i).b.toNat e else d e*Z (vd vs i).a.toNat e)
 else if (vd vs i).op=6 then -d e else if (vd vs i).op=9 then d 0 else if (vd vs i).op=10 then iX d (ln vs i)
 else if (vd vs i).op=11 then (if e=(vd vs i).c.toNat then d 0 else 0) else d (vd vs i).c.toNat
def mW (vs:List Vl)(Z D:Nat->Nat->Int)(i:Nat)(d:Nat->Int):Nat->Int
 |0=>0
 |k+1=>mW vs Z D i d k+ld (pz vs Z i d k) (D (fld (vd vs i) k).toNat) (ln vs (fld (vd vs i) k).toNat)
theorem adj {vs fs:List Vl}{Z D:Nat->Nat->Int}{T:Nat->Int}{s x:Nat}(h:DV vs fs Z D T s x){i:Nat}(hi:i<=s)(hx:x<i)(d:Nat->Int):mW vs Z D i d (cnt (vd vs i).op)=ld d (D i) (ln vs i):=by
 have hi':i<vs.length:=Nat.lt_of_le_of_lt hi h.s
 have S:=h.sh i hi'
 have hw:=h.wh i hi'
 have hd:∀k,k<ln vs i->D i k=lC vs Z D x T i k:=h.d i hi
 unfold whO at hw
 have dr:∀k,lC vs Z D x T i k=(if (vd vs i).op=2 then D (vd vs i).a.toNat k+D (vd vs i).b.toNat k
   else if (vd vs i).op=3 then D (vd vs i).a.toNat k-D (vd vs i).b.toNat k
   else if (vd vs i).op=4 then D (vd vs i).a.toNat k*Z (vd vs i).b.toNat k+Z (vd vs i).a.toNat k*D (vd vs i).b.toNat k
   else if (vd vs i).op=6 then -D (vd vs i).a.toNat k else if (vd vs i).op=10 then D (vd vs i).a.toNat 0
   else if (vd vs i).op=11 then D (vd vs i).a.toNat (vd vs i).c.toNat
   else if (vd vs i).op=12 then (if k=(vd vs i).c.toNat then D (vd vs i).a.toNat 0 else 0)
   else if (vd vs i).op=9 then iX (D (vd vs i).a.toNat) (ln vs (vd vs i).a.toNat) else 0):=λk=>by
  unfold lC
  rw[if_neg (by omega),if_neg (by omega)]
 have f0:∀v:Vl,fld v 0=v.a:=λv=>rfl
 have f1:∀v:Vl,fld v 1=v.b:=λv=>rfl
 have S2:=S.two
 have S6:=S.neg
 have S9:=S.sum
 have S10:=S.fill
 have S11:=S.pick
 have S12:=S.put
 rcases hw with c|c|c|c|c|c|c|c|c|c
 ·rw[show cnt (vd vs i).op=0 by rw[c];decide]
  exact(mD λk hk=>by rw[hd k hk,dr,c];rfl).symm
 ·rw[show cnt (vd vs i).op=0 by rw[c];decide]
  exact(mD λk hk=>by rw[hd k hk,dr,c];rfl).symm
 ·rw[show cnt (vd vs i).op=2 by rw[c];decide]
  obtain⟨_,_,la,lb⟩:=S2 (.inl c)
  rw[mW,mW,mW,f0,f1,la,lb,Int.zero_add]
  unfold ld
  rw[<-mC]
  refine iQ _ λk hk=>?_
  rw[hd k hk,dr]
  unfold pz
  rw[c]
  show d k*_+d k*_=d k*(_+_)
  rw[Int.mul_add]
 ·rw[show cnt (vd vs i).op=2 by rw[c];decide]
  obtain⟨_,_,la,lb⟩:=S2 (.inr (.inl c))
  rw[mW,mW,mW,f0,f1,la,lb,Int.zero_add]
  unfold ld
  rw[<-mC]
  refine iQ _ λk hk=>?_
  rw[hd k hk,dr]
  unfold pz
  rw[c]
  show d k*_+-d k*_=d k*(_-_)
  rw[Int.mul_sub,Int.neg_mul]
  omega
 ·rw[show cnt (vd vs i).op=2 by rw[c];decide]
  obtain⟨_,_,la,lb⟩:=S2 (.inr (.inr c))
  rw[mW,mW,mW,f0,f1,la,lb,Int.zero_add]
  unfold ld
  rw[<-mC]
  refine iQ _ λk hk=>?_
  rw[hd k hk,dr]
  unfold pz
  rw[c]
  show d k*_*_+d k*_*_=d k*(_*_+_*_)
  rw[Int.mul_add,Int.mul_assoc,Int.mul_assoc,Int.mul_comm (Z (vd vs i).b.toNat k)]
 all_goals rw[show cnt (vd vs i).op=1 by rw[c];decide,mW,mW,f0,Int.zero_add]
 ·rw[S6 c]
  refine iQ _ λk hk=>?_
  rw[hd k hk,dr]
  unfold pz
  rw[c]
  show -d k*_=d k*-_
  rw[Int.neg_mul,Int.mul_neg]
 ·have e:∀k,lC vs Z D x T i k=iX (D (vd vs i).a.toNat) (ln vs (vd vs i).a.toNat):=λk=>by rw[dr,c];rfl
  rw[S9 c]
  unfold ld
  rw[show iX (λk=>d k*D i k) 1=d 0*D i 0 by simp[iX],hd 0 (by have:=S9 c;omega),e,<-qu]
  refine iQ _ λk hk=>?_
  unfold pz
  rw[c]
  rfl
 ·rw[S10 c]
  unfold ld
  rw[show ∀f:Nat->Int,iX f 1=f 0 from λf=>by simp[iX]]
  rw[show pz vs Z i d 0 0=iX d (ln vs i) by unfold pz;rw[c];rfl,<-wT]
  refine iQ _ λk hk=>?_
  rw[hd k hk,dr,c]
  rfl
 ·obtain⟨l1,lc⟩:=S11 c
  rw[l1]
  unfold ld
  rw[show ∀f:Nat->Int,iX f 1=f 0 from λf=>by simp[iX],hd 0 (by omega),dr,c]
  show _=d 0*D (vd vs i).a.toNat (vd vs i).c.toNat
  rw[show d 0*D (vd vs i).a.toNat (vd vs i).c.toNat=if (vd vs i).c.toNat<ln vs (vd vs i).a.toNat then d 0*D (vd vs i).a.toNat (vd vs i).c.toNat else 0 by rw[if_pos lc],<-nS]
  refine iQ _ λk hk=>?_
  rw[show pz vs Z i d 0 k=if k=(vd vs i).c.toNat then d 0 else 0 by unfold pz;rw[c];rfl]
  by_cases e:k=(vd vs i).c.toNat
  ·rw[if_pos e,if_pos e,e]
  ·rw[if_neg e,if_neg e,Int.zero_mul]
 ·obtain⟨la,lc⟩:=S12 c
  rw[la]
  unfold ld
  rw[show ∀f:Nat->Int,iX f 1=f 0 from λf=>by simp[iX]]
  rw[show pz vs Z i d 0 0=d (vd vs i).c.toNat by unfold pz;rw[c];rfl]
  rw[show d (vd vs i).c.toNat*D (vd vs i).a.toNat 0=if (vd vs i).c.toNat<ln vs i then d (vd vs i).c.toNat*D (vd vs i).a.toNat 0 else 0 by rw[if_pos lc],<-nS]
  refine iQ _ λk hk=>?_
  rw[hd k hk,dr,c]
  show _=d k*(if k=(vd vs i).c.toNat then D (vd vs i).a.toNat 0 else 0)
  by_cases e:k=(vd vs i).c.toNat
  ·rw[if_pos e,if_pos e,e]
  ·rw[if_neg e,if_neg e,Int.mul_zero]
end
section
open Go.RowKit Flt
variable {v:Vl} {w w1 w2 w3 W':World} {q P Mb n1 e1 n3 base e3 cap cap' l h':Nat} {xs mv ins outs:List Int} {b1 b3 a2 a2':Option Addr} {R' R:Option Nat} {vs vs2:List Vl}
theorem jL {p:Prop}[Decidable p]{a b:List Vl×Int}(ha:-1<=a.2)(hb:-1<=b.2):-1<=(if p then a else b).2:=by
 by_cases h:p
 ·rw[if_pos h];exact ha
 ·rw[if_neg h];exact hb
theorem Ca (n d p q:Int)(N:Nat):-1<=(chM n d p q N).2:=by
 unfold chM
 exact jL (jL (by simp only;omega) (by simp only;omega)) (jL (by simp only;omega) (by simp only;omega))
theorem Dl (i:Int)(v:Vl)(ta tb tc:Int)(N:Nat)(ra:-1<=ta)(rb:-1<=tb):-1<=(mvM i v ta tb tc N).2:=by
 have z:∀{l:List Vl},-1<=(l,(-1:Int)).2:=by simp
 have n:∀{l:List Vl} {m:Nat},-1<=(l,(m:Int)).2:=by intro l m;simp only;omega
 unfold mvM mb oG nX xV
 exact jL z (jL (jL rb (jL ra n)) (jL (jL ra (jL n n)) (jL (jL (jL z n) (jL n n)) (jL (jL (jL z n) (jL n n)) (jL (Ca _ _ _ _ _) (jL (jL z (Ca _ _ _ _ _)) (jL n n)))))))
theorem vm {j:Nat}(h:∀i,-1<=mv.getD i 0):-1<=ovs v mv q j:=by
 unfold ovs;split
 ·exact h _
 ·omega
theorem sY (vs:List Vl)(x t:Nat):∀k i,-1<=(jst vs x t k).2.getD i 0
 |0,i=>by
  unfold jst
  rw[List.getD_eq_getElem?_getD,List.getElem?_set]
  split
  ·split
   ·simp only[Option.getD_some];omega
   ·simp
  ·rw[List.getElem?_replicate]
   split<;>simp
 |k+1,i=>by
  have IH:=sY vs x t k
  unfold jst
  simp only
  rw[List.getD_eq_getElem?_getD,List.getElem?_set]
  split
  ·split
   ·simp only[Option.getD_some]
    unfold jmv
    exact Dl _ _ _ _ _ _ (vm IH) (vm IH)
   ·simp
  ·rw[<-List.getD_eq_getElem?_getD]
   exact IH i
theorem vT (vs:List Vl)(x t:Nat):∀k i,x+k<i->i<vs.length->(jst vs x t k).2.getD i 0=-1
 |0,i,h,hi=>by
  unfold jst
  rw[List.getD_eq_getElem?_getD,List.getElem?_set,if_neg (by omega),List.getElem?_replicate,if_pos hi]
  rfl
 |k+1,i,h,hi=>by
  unfold jst
  simp only
  rw[List.getD_eq_getElem?_getD,List.getElem?_set,if_neg (by omega),<-List.getD_eq_getElem?_getD]
  exact vT vs x t k i (by omega) hi
theorem yB {i:Nat}{y:Int}(h:xs.getD i 0=y)(hi:i<xs.length):xs.set i y=xs:=by
 rw[List.getD_eq_getElem?_getD,List.getElem?_eq_getElem hi] at h
 simp only[Option.getD_some] at h
 subst h
 exact List.set_getElem_self hi
theorem yC (vs:List Vl)(x t k:Nat)(hi:x+1+k<vs.length)(h:∀j,j<cnt (vs.getD (x+1+k) Vl.zero).op->(jst vs x t k).2.getD (fld (vs.getD (x+1+k) Vl.zero) j).toNat 0=-1):jst vs x t (k+1)=jst vs x t k:=by
 have e:∀j,ovs (vs.getD (x+1+k) Vl.zero) (jst vs x t k).2 (cnt (vs.getD (x+1+k) Vl.zero).op) j=-1:=λj=>by
  unfold ovs;split
  ·exact h j (by assumption)
  ·rfl
 have e2:jmv vs (x+1+k) (jst vs x t k)=([],-1):=by
  unfold jmv mvM
  rw[e 0,e 1,e 2,if_pos ⟨rfl,rfl,rfl⟩]
 conv=>lhs;unfold jst
 rw[e2]
 simp only[List.append_nil]
 rw[yB (vT vs x t k _ (by omega) hi) (by rw[mM];exact hi)]
def pm (v:Vl)(mv:List Int)(q:Nat):Bool:=(List.range q).any λj=>decide (0<=mv.getD (fld v j).toNat 0)
theorem wU (v:Vl)(mv:List Int)(q:Nat):pm v mv (q+1)=(pm v mv q||decide (0<=mv.getD (fld v q).toNat 0)):=by
 unfold pm;rw[List.range_succ,List.any_append];simp
theorem vn (h:pm v mv q=false)(hg:∀i,-1<=mv.getD i 0):∀j,j<q->mv.getD (fld v j).toNat 0=-1:=λj hj=>by
 unfold pm at h
 rw[List.any_eq_false] at h
 have h1:=h j (List.mem_range.2 hj)
 have h2:=hg (fld v j).toNat
 have h3:¬(0<=mv.getD (fld v j).toNat 0):=λc=>h1 (decide_eq_true c)
 omega
theorem wV (h:pm v mv (cnt v.op)=true):¬(ovs v mv (cnt v.op) 0=-1/\ovs v mv (cnt v.op) 1=-1/\ovs v mv (cnt v.op) 2=-1):=by
 rintro⟨h0,h1,h2⟩
 unfold pm at h
 rw[List.any_eq_true] at h
 obtain⟨j,hj,hd⟩:=h
 have hj':=List.mem_range.1 hj
 have hd':=of_decide_eq_true hd
 have hc:=jo v.op
 have e:ovs v mv (cnt v.op) j=mv.getD (fld v j).toNat 0:=by unfold ovs;rw[if_pos hj']
 rcases (by omega:j=0\/j=1\/j=2) with rfl|rfl|rfl
 ·rw[e] at h0;omega
 ·rw[e] at h1;omega
 ·rw[e] at h2;omega
theorem SG.put2 {m1 m3:Nat}(h:SG w P b1 m1 e1 b3 m3 e3 vs base R a2 cap)(k:Kept 0 0 w w1)
  (own:w2.ownsRow base 31 6 (.slice a2' vs2.length cap') vs2.length (iN vs2)) (row:(Value.slice a2' vs2.length cap').ownBlock=R') (s:StQ (λ_=>False) R w1 R' w2) (k2:Kept l h' w2 w3) (hl:w.heap.size<=l) (hR:∀g,R'=some g->g<l\/h'<=g):
  SG (iM w3 P (.slice b1 m1 e1) (.slice a2' vs2.length cap') (.slice b3 m3 e3)) P b1 m1 e1 b3 m3 e3 vs2 base R' a2' cap'/\StQ (λi=>i=P) R w R' (iM w3 P (.slice b1 m1 e1) (.slice a2' vs2.length cap') (.slice b3 m3 e3)):=by
 have hlt:=h.lt
 have hsz:=k.size
 have hne:R'≠some P:=by
  rcases s.row with e|⟨r,e,hr⟩
  ·rw[e];exact h.ne
  ·rw[e];intro c;cases c;omega
 have hb:w2.heap[P]? =w1.heap[P]?:=s.chg.block P (by omega) (by rintro (c|c);exact c;exact h.ne c)
 have hlt2:P<w2.heap.size:=by have:=s.chg.size;omega
 have hb3:w3.heap[P]? =w1.heap[P]?:=(k2.block P hlt2 (by omega)).trans hb
 have e:∀o,w3.cell? ⟨P,o,none⟩=w.cell? ⟨P,o,none⟩:=λo=>(World.cell?_of_block (w:=w1) (a:=⟨P,o,none⟩) hb3).trans (k.cell (p:=⟨P,o,none⟩) h.lt (by omega))
 have ef:∀o,w3.frozen? ⟨P,o,none⟩=w.frozen? ⟨P,o,none⟩:=λo=>(World.frozen?_of_block (w:=w1) (a:=⟨P,o,none⟩) hb3).trans (k.frozen (p:=⟨P,o,none⟩) h.lt (by omega))
 obtain⟨y0,y1,y2⟩:=iy w3 P _ _ _ ((e 0).trans h.c0) ((e 1).trans h.c1) ((e 2).trans h.c2) (.slice b1 m1 e1) (.slice a2' vs2.length cap') (.slice b3 m3 e3)
 have kp:=iD w3 P (.slice b1 m1 e1) (.slice a2' vs2.length cap') (.slice b3 m3 e3)
 have nB:(Value.slice a2' vs2.length cap').ownBlock≠some P:=by rw[row];exact hne
 refine⟨⟨?_,λo=>?_,y0,y1,y2,ir (ir (ir (iR own k2 (λg hg=>hR g (row ▸ hg))) nB) nB) nB,row,hne,?_⟩,⟨?_,?_,?_,?_,λi hi hn=>?_⟩,?_⟩
 ·have:=kp.size;have:=s.chg.size;have:=k2.size;unfold iM;omega
 ·unfold iM;simp[ef o,h.free o]
 ·have:=kp.size;have:=s.chg.size;have:=h.sz;have:=k2.size;unfold iM;omega
 ·exact kp.os.trans (k2.os.trans (s.chg.os.trans k.os))
 ·exact kp.tape.trans (k2.tape.trans (s.chg.tape.trans k.tape))
 ·exact kp.output.trans (k2.output.trans (s.chg.output.trans k.output))
 ·have:=kp.size;have:=s.chg.size;have:=k2.size;unfold iM;omega
 ·unfold iM
  have z1:=s.chg.size
  have z2:=k2.size
  rw[kp.block i (by omega) (λc=>hn (.inl (by omega))),k2.block i (by omega) (by omega),s.chg.block i (by omega) (by rintro (c|c);exact c;exact hn (.inr c))]
  exact k.block i hi (by omega)
 ·rcases s.row with c|⟨r,c,hr⟩
  ·exact .inl c
  ·exact .inr ⟨r,c,by omega⟩
theorem pO {e size n:Nat}{v:Value}{xs:List Value}{W:World}(o:W.ownsRow base e size v n xs)(s:StQ (λi=>i=P) R W R' W')(hP:v.ownBlock≠some P)(hR:∀g,v.ownBlock=some g->R≠some g):W'.ownsRow base e size v n xs:=by
 refine⟨o.1,o.2.imp id ?_⟩
 rintro⟨g,cap,cur,e1,b1,b2,b3⟩
 refine⟨g,cap,cur,e1,b1,?_,b3⟩
 have hg:g<W.heap.size:=by
  rcases Nat.lt_or_ge g W.heap.size with c|c
  ·exact c
  ·rw[Array.getElem?_eq_none c] at b2;cases b2
 have hb:v.ownBlock=some g:=by rw[e1];rfl
 rw[s.chg.block g hg (by rintro (c|c);exact hP (by rw[hb,c]);exact hR g hb c)]
 exact b2
theorem IR.stq {W:World}{B:Nat}(h:IR W B xs)(s:StQ (λi=>i=P) R W R' W')(hP:B≠P)(hR:R≠some B):IR W' B xs:=by
 unfold IR
 rw[s.chg.block B h.lt (by rintro (c|c);exact hP c;exact hR c)]
 exact h
structure LJ (w W:World)(Mb:Nat)(b1:Option Addr)(n1 e1:Nat)(b3:Option Addr)(n3 e3:Nat)(ins outs:List Int)(vs:List Vl)(mv:List Int)(base:Nat)(R:Option Nat)(a2:Option Addr)(cap:Nat):Prop where
 g:SG W w.heap.size b1 n1 e1 b3 n3 e3 vs base R a2 cap
 b:RB W (w.heap.size+1) (.slice none 0 0) (.slice none 0 0) (.slice none 0 0)
 m:IR W Mb mv
 i:W.ownsRow base 3 1 (.slice b1 n1 e1) n1 (ins.map (Value.int .i64))
 o:W.ownsRow base 3 1 (.slice b3 n3 e3) n3 (outs.map (Value.int .i64))
 k:Kept 0 0 w W
 hb:w.heap.size+1+1<=base
 dM:base<=Mb
 rM:R≠some Mb
 a1:j9 (.slice b1 n1 e1) (.slice a2 vs.length cap)
 a3:j9 (.slice b3 n3 e3) (.slice a2 vs.length cap)
 a4:j9 (.slice b1 n1 e1) (.slice b3 n3 e3)
 m1:(Value.slice b1 n1 e1).ownBlock≠some Mb
 m3:(Value.slice b3 n3 e3).ownBlock≠some Mb
theorem LJ.keep {W:World}(h:LJ w W Mb b1 n1 e1 b3 n3 e3 ins outs vs mv base R a2 cap)(k:Kept 0 0 W W'):LJ w W' Mb b1 n1 e1 b3 n3 e3 ins outs vs mv base R a2 cap:=
 {h with g:=h.g.keep k,b:=h.b.keep k,m:=h.m.keep k (.inr (.inr (Nat.le_refl _))),i:=iC h.i k,o:=iC h.o k,k:=h.k.trans k}
theorem LJ.set {W:World}(h:LJ w W Mb b1 n1 e1 b3 n3 e3 ins outs vs mv base R a2 cap)(j:Nat)(r:Int):LJ w (W.setCell ⟨Mb,j,none⟩ (.int .i64 r)) Mb b1 n1 e1 b3 n3 e3 ins outs vs (mv.set j r) base R a2 cap:=by
 have hP:Mb≠w.heap.size:=by have:=h.hb;have:=h.dM;omega
 have hQ:Mb≠w.heap.size+1:=by have:=h.hb;have:=h.dM;omega
 have c:∀B o,Mb≠B->(W.setCell ⟨Mb,j,none⟩ (.int .i64 r)).cell? ⟨B,o,none⟩=W.cell? ⟨B,o,none⟩:=λB o hB=>iB _ _ _ _ _ _ (.inl hB)
 obtain⟨bz,t0,t1,t2,x0,x1,x2⟩:=h.b
 exact {
  g:=⟨by simpa using h.g.lt,λo=>by simp[h.g.free o],by rw[c _ _ hP];exact h.g.c0,by rw[c _ _ hP];exact h.g.c1,by rw[c _ _ hP];exact h.g.c2,ir h.g.own (by rw[h.g.row];exact h.rM),h.g.row,h.g.ne,by simpa using h.g.sz⟩
  b:=⟨by simpa using bz,by rw[c _ _ hQ];exact t0,by rw[c _ _ hQ];exact t1,by rw[c _ _ hQ];exact t2,by simp[x0],by simp[x1],by simp[x2]⟩
  m:=h.m.set j r
  i:=ir h.i h.m1
  o:=ir h.o h.m3
  k:=kT w W h.k Mb j _ (by have:=h.hb;have:=h.dM;omega)
  hb:=h.hb,dM:=h.dM,rM:=h.rM,a1:=h.a1,a3:=h.a3,a4:=h.a4,m1:=h.m1,m3:=h.m3}
theorem LJ.step {W:World}(h:LJ w W Mb b1 n1 e1 b3 n3 e3 ins outs vs mv base R a2 cap)(k:Kept 0 0 W w1)
  (own:w2.ownsRow base 31 6 (.slice a2' vs2.length cap') vs2.length (iN vs2)) (row:(Value.slice a2' vs2.length cap').ownBlock=R') (s:StQ (λ_=>False) R w1 R' w2) (k2:Kept l h' w2 w3) (hl:W.heap.size<=l) (hR:∀g,R'=some g->g<l\/h'<=g):
  LJ w (iM w3 w.heap.size (.slice b1 n1 e1) (.slice a2' vs2.length cap') (.slice b3 n3 e3)) Mb b1 n1 e1 b3 n3 e3 ins outs vs2 mv base R' a2' cap':=by
 obtain⟨q1,q2⟩:=h.g.put2 k own row s k2 hl hR
 have hz:=k.size
 have far:∀B,B<W.heap.size->R≠some B->R'≠some B:=λB hB hR=>by
  rcases q2.row with e|⟨r,e,hr⟩
  ·rw[e];exact hR
  ·rw[e];intro c;cases c;omega
 have ap:∀{b:Option Addr} {n e:Nat} {xs:List Value},W.ownsRow base 3 1 (.slice b n e) n xs->j9 (.slice b n e) (.slice a2 vs.length cap)->(∀g,(Value.slice b n e).ownBlock=some g->R≠some g)/\(Value.slice b n e).ownBlock≠some w.heap.size/\j9 (.slice b n e) (.slice a2' vs2.length cap'):=λho ha=>by
  have h1:∀g,(Value.slice _ _ _).ownBlock=some g->R≠some g:=λg hg=>by rw[<-h.g.row];exact ha g hg
  refine⟨h1,λc=>?_,λg hg=>?_⟩
  ·have:=(ii ho c).1;have:=h.hb;omega
  ·rw[row];exact far g (ii ho hg).2 (h1 g hg)
 obtain⟨i1,i2,i3⟩:=ap h.i h.a1
 obtain⟨o1,o2,o3⟩:=ap h.o h.a3
 have hbQ:R≠some (w.heap.size+1):=λc=>by have:=(ii h.g.own (h.g.row.trans c)).1;have:=h.hb;omega
 exact {
  g:=q1
  b:=h.b.stq q2 (by omega) hbQ
  m:=h.m.stq q2 (by have:=h.hb;have:=h.dM;omega) h.rM
  i:=pO h.i q2 i2 i1
  o:=pO h.o q2 o2 o1
  k:=Chg.kept h.k q2.chg (by
   rintro i (c|c)
   ·omega
   ·have:=(ii h.g.own (h.g.row.trans c)).1;have:=h.hb;omega)
  hb:=h.hb
  dM:=h.dM
  rM:=far Mb h.m.lt h.rM
  a1:=i3
  a3:=o3
  a4:=h.a4
  m1:=h.m1
  m3:=h.m3}
end
section
open Go.RowKit Flt
attribute [local go_sem] ic ib ia
variable {w W':World} {xs act:List Bool} {Mb P g2 e1 n A e3 n3 base cap c1 c2 c3 B:Nat} {b1 b3 a2:Option Addr} {ins outs mv:List Int} {vs:List Vl} {R:Option Nat}
theorem LJ.read {W:World}{n1:Nat}(h:LJ w W Mb b1 n1 e1 b3 n3 e3 ins outs vs mv base R a2 cap)(hn:0<vs.length):
  ∃g,a2=some ⟨g,0,none⟩/\R=some g/\g<W.heap.size/\∀j,j<vs.length->At W g (j*6) (vs.getD j Vl.zero):=by
 obtain⟨g,c,e,_,hg,_,hA⟩:=kU h.g.own hn rfl
 injection e with e1 e2 e3
 subst e1
 exact⟨g,rfl,h.g.row.symm,hg,hA.at_⟩
theorem LJ.start {w1:World}{n1 n2 d1 d2 d3:Nat}{g:Obj}{u0 u1 u2:Value}(hn:vs.length=n2)
  (hG:G0 ((w.alloc g).alloc iw) w.heap.size u0 u1 u2) (hf:∀o,((w.alloc g).alloc iw).frozen? ⟨w.heap.size,o,none⟩=false) (hR:RB ((w.alloc g).alloc iw) (w.heap.size+1) (.slice none 0 0) (.slice none 0 0) (.slice none 0 0)) (k:Kept 0 0 ((w.alloc g).alloc iw) w1)
  (o1:w1.ownsRow ((w.alloc g).alloc iw).heap.size 3 1 (.slice b1 n1 d1) n1 (ins.map (Value.int .i64))) (o2:w1.ownsRow ((w.alloc g).alloc iw).heap.size 31 6 (.slice a2 n2 d2) n2 (iN vs)) (o3:w1.ownsRow ((w.alloc g).alloc iw).heap.size 3 1 (.slice b3 n3 d3) n3 (outs.map (Value.int .i64)))
  (q1:j9 (.slice a2 n2 d2) (.slice b1 n1 d1)) (q2:j9 (.slice a2 n2 d2) (.slice b3 n3 d3)) (q3:j9 (.slice b1 n1 d1) (.slice b3 n3 d3)):
  ∀W',IR W' (iM w1 w.heap.size (.slice b1 n1 d1) (.slice a2 n2 d2) (.slice b3 n3 d3)).heap.size (List.replicate n2 0)->Kept 0 0 (iM w1 w.heap.size (.slice b1 n1 d1) (.slice a2 n2 d2) (.slice b3 n3 d3)) W'->
   LJ w W' (iM w1 w.heap.size (.slice b1 n1 d1) (.slice a2 n2 d2) (.slice b3 n3 d3)).heap.size b1 n1 d1 b3 n3 d3 ins outs vs (List.replicate n2 0) ((w.alloc g).alloc iw).heap.size (Value.slice a2 n2 d2).ownBlock a2 d2:=by
 intro W' hI kW
 have hz:((w.alloc g).alloc iw).heap.size=w.heap.size+1+1:=by simp
 have kp:=iD w1 w.heap.size (.slice b1 n1 d1) (.slice a2 n2 d2) (.slice b3 n3 d3)
 have kk:=hG.keep k
 obtain⟨y0,y1,y2⟩:=iy w1 w.heap.size _ _ _ kk.q0 kk.q1 kk.q2 (.slice b1 n1 d1) (.slice a2 n2 d2) (.slice b3 n3 d3)
 have key:∀{e size n:Nat} {v:Value} {xs:List Value},w1.ownsRow ((w.alloc g).alloc iw).heap.size e size v n xs->W'.ownsRow ((w.alloc g).alloc iw).heap.size e size v n xs/\(∀B,v.ownBlock=some B->w.heap.size+1+1<=B/\B<w1.heap.size):=λh=>
  ⟨iC (iR h kp (λb hb=>by have:=(ii h hb).1;omega)) kW,λB hB=>by have:=ii h hB;omega⟩
 obtain⟨p1,r1⟩:=key o1
 obtain⟨p2,r2⟩:=key o2
 obtain⟨p3,r3⟩:=key o3
 have kn:Kept 0 0 w ((w.alloc g).alloc iw):=(hU 0 0 w _).trans (hU 0 0 _ _)
 have hsz:w.heap.size<(iM w1 w.heap.size (.slice b1 n1 d1) (.slice a2 n2 d2) (.slice b3 n3 d3)).heap.size:=Nat.lt_of_lt_of_le kk.sz kp.size
 have hP:∀o,W'.cell? ⟨w.heap.size,o,none⟩=(iM w1 w.heap.size (.slice b1 n1 d1) (.slice a2 n2 d2) (.slice b3 n3 d3)).cell? ⟨w.heap.size,o,none⟩:=λo=>kW.cell (p:=⟨w.heap.size,o,none⟩) hsz (by omega)
 have hRB:RB W' (w.heap.size+1) (.slice none 0 0) (.slice none 0 0) (.slice none 0 0):=by
  obtain⟨bz,t0,t1,t2,x0,x1,x2⟩:=hR.keep k
  refine RB.keep ?_ kW
  have c:∀o,(iM w1 w.heap.size (.slice b1 n1 d1) (.slice a2 n2 d2) (.slice b3 n3 d3)).cell? ⟨w.heap.size+1,o,none⟩=w1.cell? ⟨w.heap.size+1,o,none⟩:=λo=>kp.cell (p:=⟨w.heap.size+1,o,none⟩) bz (by show ¬(w.heap.size<=w.heap.size+1/\w.heap.size+1<w.heap.size+1);omega)
  have fz:∀o,(iM w1 w.heap.size (.slice b1 n1 d1) (.slice a2 n2 d2) (.slice b3 n3 d3)).frozen? ⟨w.heap.size+1,o,none⟩=w1.frozen? ⟨w.heap.size+1,o,none⟩:=λo=>kp.frozen (p:=⟨w.heap.size+1,o,none⟩) bz (by show ¬(w.heap.size<=w.heap.size+1/\w.heap.size+1<w.heap.size+1);omega)
  exact⟨Nat.lt_of_lt_of_le bz kp.size,by rw[c];exact t0,by rw[c];exact t1,by rw[c];exact t2,by rw[fz];exact x0,by rw[fz];exact x1,by rw[fz];exact x2⟩
 have z1:=k.size
 have z2:=kp.size
 subst hn
 exact {
  g:=⟨Nat.lt_of_lt_of_le hsz kW.size,λo=>by
    rw[kW.frozen (p:=⟨w.heap.size,o,none⟩) hsz (by omega)]
    unfold iM
    simp[k.frozen (p:=⟨w.heap.size,o,none⟩) hG.sz (by omega),hf o],by rw[hP];exact y0,by rw[hP];exact y1,by rw[hP];exact y2,p2,rfl,λc=>by have:=r2 _ c;omega,by
    have:=kW.size
    have:(iM w1 w.heap.size (.slice b1 n1 d1) (.slice a2 vs.length d2) (.slice b3 n3 d3)).heap.size≥w1.heap.size:=z2
    omega⟩
  b:=hRB
  m:=hI
  i:=p1
  o:=p3
  k:=(Kept.new (kn.trans k) kp (Nat.le_refl _)).trans kW
  hb:=by omega
  dM:=by
   have:(iM w1 w.heap.size (.slice b1 n1 d1) (.slice a2 vs.length d2) (.slice b3 n3 d3)).heap.size≥w1.heap.size:=z2
   omega
  rM:=λc=>by
   have:=(r2 _ c).2
   have:(iM w1 w.heap.size (.slice b1 n1 d1) (.slice a2 vs.length d2) (.slice b3 n3 d3)).heap.size≥w1.heap.size:=z2
   omega
  a1:=λB h1 h2=>q1 B h2 h1
  a3:=λB h1 h2=>q2 B h2 h1
  a4:=q3
  m1:=λc=>by
   have:=(r1 _ c).2
   have:(iM w1 w.heap.size (.slice b1 n1 d1) (.slice a2 vs.length d2) (.slice b3 n3 d3)).heap.size≥w1.heap.size:=z2
   omega
  m3:=λc=>by
   have:=(r3 _ c).2
   have:(iM w1 w.heap.size (.slice b1 n1 d1) (.slice a2 vs.length d2) (.slice b3 n3 d3)).heap.size≥w1.heap.size:=z2
   omega}
structure Oth (w:World)(Mb:Nat)(b1:Option Addr)(n1 e1:Nat)(b3:Option Addr)(n3 e3:Nat)(R:Option Nat)(B:Nat):Prop where
 p:w.heap.size+1+1<=B
 m:Mb≠B
 r:R≠some B
 i:(Value.slice b1 n1 e1).ownBlock≠some B
 o:(Value.slice b3 n3 e3).ownBlock≠some B
theorem LJ.oth {W:World}{n1:Nat}(h:LJ w W Mb b1 n1 e1 b3 n3 e3 ins outs vs mv base R a2 cap)(hB:W.heap.size<=B):Oth w Mb b1 n1 e1 b3 n3 e3 R B where
 p:=by have:=h.b.sz;omega
 m:=by have:=h.m.lt;omega
 r:=λc=>by have:=(ii h.g.own (h.g.row.trans c)).2;omega
 i:=λc=>by have:=(ii h.i c).2;omega
 o:=λc=>by have:=(ii h.o c).2;omega
theorem LJ.other {W:World}{n1:Nat}(h:LJ w W Mb b1 n1 e1 b3 n3 e3 ins outs vs mv base R a2 cap)(t:Oth w Mb b1 n1 e1 b3 n3 e3 R B)(j:Nat)(u:Value):LJ w (W.setCell ⟨B,j,none⟩ u) Mb b1 n1 e1 b3 n3 e3 ins outs vs mv base R a2 cap:=by
 have hp:=t.p
 have c:∀X o,B≠X->(W.setCell ⟨B,j,none⟩ u).cell? ⟨X,o,none⟩=W.cell? ⟨X,o,none⟩:=λX o hX=>iB _ _ _ _ _ _ (.inl hX)
 obtain⟨bz,t0,t1,t2,x0,x1,x2⟩:=h.b
 exact {
  g:=⟨by simpa using h.g.lt,λo=>by simp[h.g.free o],by rw[c _ _ (by omega)];exact h.g.c0,by rw[c _ _ (by omega)];exact h.g.c1,by rw[c _ _ (by omega)];exact h.g.c2,ir h.g.own (by rw[h.g.row];exact t.r),h.g.row,h.g.ne,by simpa using h.g.sz⟩
  b:=⟨by simpa using bz,by rw[c _ _ (by omega)];exact t0,by rw[c _ _ (by omega)];exact t1,by rw[c _ _ (by omega)];exact t2,by simp[x0],by simp[x1],by simp[x2]⟩
  m:=by
   unfold IR
   rw[Below.heap_setCell W ⟨B,j,none⟩ u Mb t.m]
   exact h.m
  i:=ir h.i t.i
  o:=ir h.o t.o
  k:=kT w W h.k B j _ (by omega)
  hb:=h.hb,dM:=h.dM,rM:=h.rM,a1:=h.a1,a3:=h.a3,a4:=h.a4,m1:=h.m1,m3:=h.m3}
theorem ir3 (w:World)(a b c:Int):IR (w.alloc (.cells #[.int .i64 a,.int .i64 b,.int .i64 c] 3)) w.heap.size [a,b,c]:=by
 unfold IR
 rw[heap_alloc_new]
 rfl
theorem yD (v:Vl)(mv:List Int)(q:Nat)(hq:q<3):([ovs v mv q 0,ovs v mv q 1,ovs v mv q 2]:List Int).set q (mv.getD (fld v q).toNat 0)=[ovs v mv (q+1) 0,ovs v mv (q+1) 1,ovs v mv (q+1) 2]:=by
 rcases (by omega:q=0\/q=1\/q=2) with rfl|rfl|rfl<;>simp[ovs]
theorem yE (vs:List Vl)(x t s:Nat)(h:s≠x)(hs:s<vs.length):(jst vs x t 0).2.getD s 0=-1:=by
 unfold jst
 rw[List.getD_eq_getElem?_getD,List.getElem?_set,if_neg (λc=>h c.symm),List.getElem?_replicate,if_pos hs]
 rfl
theorem LJ.fin {W:World}{n1:Nat}(h:LJ w W Mb b1 n1 e1 b3 n3 e3 ins outs vs mv base R a2 cap)(k:Kept 0 0 W W'):
  ((iM W' (w.heap.size+1) (.slice b1 n1 e1) (.slice a2 vs.length cap) (.slice b3 n3 e3)).ownsRow w.heap.size 3 1 (.slice b1 n1 e1) n1 (ins.map (Value.int .i64))/\(iM W' (w.heap.size+1) (.slice b1 n1 e1) (.slice a2 vs.length cap) (.slice b3 n3 e3)).ownsRow w.heap.size 31 6 (.slice a2 vs.length cap) vs.length (iN vs)/\(iM W' (w.heap.size+1) (.slice b1 n1 e1) (.slice a2 vs.length cap) (.slice b3 n3 e3)).ownsRow w.heap.size 3 1 (.slice b3 n3 e3) n3 (outs.map (Value.int .i64)))/\Kept 0 0 w (iM W' (w.heap.size+1) (.slice b1 n1 e1) (.slice a2 vs.length cap) (.slice b3 n3 e3)):=by
 have kp:=iD W' (w.heap.size+1) (.slice b1 n1 e1) (.slice a2 vs.length cap) (.slice b3 n3 e3)
 have hb:=h.hb
 have key:∀{e size n:Nat} {v:Value} {xs:List Value},W.ownsRow base e size v n xs->(iM W' (w.heap.size+1) (.slice b1 n1 e1) (.slice a2 vs.length cap) (.slice b3 n3 e3)).ownsRow w.heap.size e size v n xs:=λho=>
  jP (iR (iC ho k) kp (λg hg=>by have:=(ii ho hg).1;omega)) (by omega)
 exact⟨⟨key h.i,key h.g.own,key h.o⟩,Kept.new (h.k.trans k) kp (by omega)⟩
theorem LJ.call {W W1:World}{n1:Nat}(h:LJ w W Mb b1 n1 e1 b3 n3 e3 ins outs vs mv base R a2 cap)(k:Kept 0 0 W W1)(u:Vl)(hn:vs.length<=1000000):
  Calls Tryz.prog 50 #[ip b1 n1 e1 a2 vs.length cap b3 n3 e3,u.agg] W1 λe w2=>∃g' cap',e=.returned (ip b1 n1 e1 (some ⟨g',0,none⟩) (vs.length+1) cap' b3 n3 e3)/\
   (∃u,w2.cell? ⟨w.heap.size,0,none⟩=some u)/\(∃u,w2.cell? ⟨w.heap.size,1,none⟩=some u)/\(∃u,w2.cell? ⟨w.heap.size,2,none⟩=some u)/\(∀o,w2.frozen? ⟨w.heap.size,o,none⟩=false)/\
   Hid (LJ w (iM w2 w.heap.size (.slice b1 n1 e1) (.slice (some ⟨g',0,none⟩) (vs.length+1) cap') (.slice b3 n3 e3)) Mb b1 n1 e1 b3 n3 e3 ins outs (vs++[u]) mv base (some g') (some ⟨g',0,none⟩) cap'):=by
 have h1:=h.keep k
 refine(rF W1 b1 a2 b3 n1 e1 cap n3 e3 base vs u h1.g.own h1.g.sz hn).mono ?_
 rintro e w2 ⟨g',cap',rfl,own,s⟩
 rw[h.g.row] at s
 have hb:w2.heap[w.heap.size]? =W1.heap[w.heap.size]?:=s.chg.block w.heap.size h1.g.lt (by rintro (c|c);exact c;exact h.g.ne c)
 have e:∀o,w2.cell? ⟨w.heap.size,o,none⟩=W1.cell? ⟨w.heap.size,o,none⟩:=λo=>World.cell?_of_block (w:=W1) (a:=⟨w.heap.size,o,none⟩) hb
 have ef:∀o,w2.frozen? ⟨w.heap.size,o,none⟩=W1.frozen? ⟨w.heap.size,o,none⟩:=λo=>World.frozen?_of_block (w:=W1) (a:=⟨w.heap.size,o,none⟩) hb
 have hl:(vs++[u]).length=vs.length+1:=by simp
 have key:=h.step (vs2:=vs++[u]) (a2':=some ⟨g',0,none⟩) (cap':=cap') (l:=W.heap.size) (h':=W.heap.size) k (by rw[hl];exact own) (R':=some g') rfl s ((Kept.refl 0 0 w2).mono λ_ _ c=>by omega) (Nat.le_refl _) (λg _=>by omega)
 rw[hl] at key
 exact⟨g',cap',rfl,⟨_,(e 0).trans h1.g.c0⟩,⟨_,(e 1).trans h1.g.c1⟩,⟨_,(e 2).trans h1.g.c2⟩,λo=>by rw[ef];exact h1.g.free o,key⟩
theorem sZ {i:Nat}(h:okV ins vs i=true):0<=(vs.getD i Vl.zero).op/\(vs.getD i Vl.zero).op<=13:=by
 by_cases h0:(vs.getD i Vl.zero).op=0
 ·omega
 ·unfold okV at h
  rw[if_neg h0] at h
  simp only[Bool.and_eq_true] at h
  by_cases c:0<=(vs.getD i Vl.zero).op/\(vs.getD i Vl.zero).op<=13
  ·exact c
  ·have:=h.2.2
   rw[pe c] at this
   cases this
def pD (act:List Bool)(v:Vl)(k:Nat):Bool:=(List.range k).any λq=>act.getD (fld v q).toNat false
theorem wW (act:List Bool)(v:Vl)(k:Nat):pD act v (k+1)=(pD act v k||act.getD (fld v k).toNat false):=by
 unfold pD;rw[List.range_succ,List.any_append];simp
theorem pP {i j:Nat}{b:Bool}(h:j≠i):(xs.set i b).getD j false=xs.getD j false:=by
 rw[List.getD_eq_getElem?_getD,List.getElem?_set,if_neg (λe=>h e.symm),<-List.getD_eq_getElem?_getD]
theorem ul (vs0:List Vl)(x:Nat):∀m i,x+m<i->(iS vs0 x m).getD i false=false
 |0,i,h=>by
  rw[iS,pP (by omega),List.getD_eq_getElem?_getD,List.getElem?_replicate]
  split<;>rfl
 |m+1,i,h=>by rw[iS,pP (by omega),ul vs0 x m i (by omega)]
theorem wX {i:Nat}(h:xs.getD i false=false):xs.set i false=xs:=by
 by_cases hi:i<xs.length
 ·rw[List.getD_eq_getElem?_getD,List.getElem?_eq_getElem hi] at h
  simp only[Option.getD_some] at h
  rw[<-h]
  exact List.set_getElem_self hi
 ·exact List.set_eq_of_length_le (by omega)
structure AcS (w W:World)(P g2 n A:Nat)(b1 b3:Option Addr)(n1 c1 c2 n3 c3:Nat)(vs:List Vl)(act:List Bool):Prop where
 g:G0 W P (.slice b1 n1 c1) (.slice (some ⟨g2,0,none⟩) n c2) (.slice b3 n3 c3)
 v:VA W g2 n vs
 a:BR W A act
 k:Kept 0 0 w W
 n1:P≠A
 n2:g2≠A
 l:w.heap.size<=A
theorem AcS.keep {W:World}{n1:Nat}(h:AcS w W P g2 n A b1 b3 n1 c1 c2 n3 c3 vs act)(k:Kept 0 0 W W'):AcS w W' P g2 n A b1 b3 n1 c1 c2 n3 c3 vs act:=
 ⟨h.g.keep k,VA.keep h.v k (.inr (.inr (Nat.le_refl _))),BR.keep h.a k (.inr (.inr (Nat.le_refl _))),h.k.trans k,h.n1,h.n2,h.l⟩
theorem AcS.set {W:World}{n1:Nat}(h:AcS w W P g2 n A b1 b3 n1 c1 c2 n3 c3 vs act)(i:Nat)(b:Bool):AcS w (W.setCell ⟨A,i,none⟩ (.bool b)) P g2 n A b1 b3 n1 c1 c2 n3 c3 vs (act.set i b):=
 have k:=iH (S:=λq=>q=A) W A i (.bool b) rfl
 ⟨h.g.keepC k h.n1,h.v.keepC k h.n2,BR.set h.a i b,h.k.new (it (lo:=A) (hi:=A+1) W ⟨A,i,none⟩ (.bool b) (.inl ⟨Nat.le_refl _,Nat.lt_succ_self _⟩)) h.l,h.n1,h.n2,h.l⟩
theorem um (w:World)(b1 b3:Option Addr)(g2 n1 c1 n c2 n3 c3 s x:Nat)(vs:List Vl)(hV:VA w g2 n vs)(hl:n<=2000)(hs:s<n)(hx:x<n)(hop:∀j,j<n->0<=(vs.getD j Vl.zero).op/\(vs.getD j Vl.zero).op<=13)(hops:∀j,j<n->∀k,k<cnt (vs.getD j Vl.zero).op->0<=fld (vs.getD j Vl.zero) k/\fld (vs.getD j Vl.zero) k<j):
  Calls Tryz.prog 53 #[ip b1 n1 c1 (some ⟨g2,0,none⟩) n c2 b3 n3 c3,.int .i64 (s:Int),.int .i64 (x:Int)] w λe w'=>∃A,e=.returned (.slice (some ⟨A,0,none⟩) n n)/\BR w' A (iS vs x (s-x))/\w.heap.size<=A/\Kept 0 0 w w':=by
 have hlt:=hV.lt
 have HLN:Hid (vs.length=n):=hV.len
 have hm:=uS n (w.alloc (iv b1 n1 c1 (some ⟨g2,0,none⟩) n c2 b3 n3 c3)) (by omega)
 have k1:=hU 0 0 w (iv b1 n1 c1 (some ⟨g2,0,none⟩) n c2 b3 n3 c3)
 have k2:=hU 0 0 (w.alloc (iv b1 n1 c1 (some ⟨g2,0,none⟩) n c2 b3 n3 c3)) (.cells (madeCells #[.bool false] n) 4)
 have hA:=BR.made (w.alloc (iv b1 n1 c1 (some ⟨g2,0,none⟩) n c2 b3 n3 c3)) n
 rw[show(w.alloc (iv b1 n1 c1 (some ⟨g2,0,none⟩) n c2 b3 n3 c3)).heap.size=w.heap.size+1 by simp] at hA hm
 have HA0:Hid (AcS w ((w.alloc (iv b1 n1 c1 (some ⟨g2,0,none⟩) n c2 b3 n3 c3)).alloc (.cells (madeCells #[.bool false] n) 4)) w.heap.size g2 n (w.heap.size+1) b1 b3 n1 c1 c2 n3 c3 vs (List.replicate n false)):=
  ⟨(iO w _ _ _).keep k2,VA.keep hV (k1.trans k2) (.inr (.inr (Nat.le_refl _))),hA,k1.trans k2,by omega,by omega,by omega⟩
 have HA1:Hid (AcS w (((w.alloc (iv b1 n1 c1 (some ⟨g2,0,none⟩) n c2 b3 n3 c3)).alloc (.cells (madeCells #[.bool false] n) 4)).setCell ⟨w.heap.size+1,x,none⟩ (.bool true)) w.heap.size g2 n (w.heap.size+1) b1 b3 n1 c1 c2 n3 c3 vs (iS vs x 0)):=by
  have:=HA0.out.set x true
  unfold iS
  rw[HLN.out]
  exact this
 have y1:=HA0.out.g.q1
 have zA:=BR.cell HA0.out.a x (by simp;exact hx)
 have zF:=BR.free HA0.out.a x
 generalize (List.replicate n false).getD x false=zz at zA
 have hx1:(0:Int)<=(x:Int):=by omega
 have hx2:(x:Int)<(n:Int):=by omega
 have hxw:IntKind.i64.wrap ((x:Int)+1)=(x:Int)+1:=by rw[IntKind.wrap_i64];omega
 have HOP:Hid _:=hop
 have HOS:Hid _:=hops
 clear hV k1 k2 hA HA0 hop hops
 generalize (w.alloc (iv b1 n1 c1 (some ⟨g2,0,none⟩) n c2 b3 n3 c3)).alloc (.cells (madeCells #[.bool false] n) 4)=w2 at hm HA1 y1 zA zF
 go_enter Tryz.func53,Tryz.ntmps53
 go_wp2_with fail
 clear hm y1 zA zF
 generalize w2.setCell ⟨w.heap.size+1,x,none⟩ (.bool true)=w5 at HA1 ⊢
 generalize hAA:w.heap.size+1=A at HA1 ⊢
 clear hAA
 go_loopw [8] (λv W=>∃(i m:Nat),v=.int .i64 (i:Int)/\i=x+1+m/\m<=s-x/\Hid (AcS w W w.heap.size g2 n A b1 b3 n1 c1 c2 n3 c3 vs (iS vs x m))) (λv _=>s+1-(intOf v).toNat)
 case atStart=>exact⟨x+1,0,by go_num,rfl,Nat.zero_le _,HA1⟩
 case round=>
  obtain⟨i,m,rfl,him,hms,hN⟩:=hrel
  clear HA1
  by_cases his:i<=s
  ·have hi1:(0:Int)<=(i:Int):=by omega
   have hi2:(i:Int)<(n:Int):=by omega
   have hi3:(i:Int)<=(s:Int):=by omega
   have hin:i<n:=by omega
   obtain⟨v,hv⟩:∃v,v=vs.getD i Vl.zero:=⟨_,rfl⟩
   have HV:Hid (v=vs.getD i Vl.zero):=hv
   have HL1:Hid _:=B2 v.op (by rw[hv];exact(HOP.out i hin).1) (by rw[hv];exact(HOP.out i hin).2)
   have hos:=HOS.out i hin
   rw[<-hv] at hos
   have HOSi:Hid _:=hos
   have HS0:Hid (AcS w wr w.heap.size g2 n A b1 b3 n1 c1 c2 n3 c3 vs ((iS vs x m).set i (pD (iS vs x m) v 0))):=by
    have e:(iS vs x m).set i (pD (iS vs x m) v 0)=iS vs x m:=wX (ul vs x m i (by omega))
    show AcS _ _ _ _ _ _ _ _ _ _ _ _ _ _ _
    rw[e]
    exact hN.out
   have HIM:Hid (i=x+1+m/\m<=s-x):=⟨him,hms⟩
   have HAL:Hid ((iS vs x m).length=n):=by show _=_;rw[my,HLN.out]
   have HNX:Hid (iS vs x (m+1)=(iS vs x m).set i (pD (iS vs x m) v (cnt v.op))):=by
    show _=_
    rw[iS,<-him,<-hv]
    rfl
   generalize iS vs x m=act at HS0 HAL HNX
   have hiw:IntKind.i64.wrap ((i:Int)+1)=(i:Int)+1:=by rw[IntKind.wrap_i64];omega
   clear hN him hms hv hos
   go_wp2_with fail
   go_loopw [9] (λu W=>∃k:Nat,k<=cnt v.op/\u=.int .i64 (k:Int)/\Hid (AcS w W w.heap.size g2 n A b1 b3 n1 c1 c2 n3 c3 vs (act.set i (pD act v k)))) (λu _=>cnt v.op-(intOf u).toNat)
   case atStart=>exact⟨0,Nat.zero_le _,rfl,HS0⟩
   case round=>
    obtain⟨k,hk,rfl,hS⟩:=hrel
    clear HS0
    have y1:=hS.out.g.q1
    have hat:=hS.out.v.at_ i hin
    rw[<-HV.out] at hat
    obtain⟨z0,z1,z2,z3,z4,z5⟩:=hat
    by_cases hlt:k<cnt v.op
    ·obtain⟨o,ho,hoi⟩:∃o:Nat,fld v k=(o:Int)/\o<i:=by
      have:=HOSi.out k hlt
      exact⟨(fld v k).toNat,by omega,by omega⟩
     have hc3:=jo v.op
     have HFD:Hid (∀W,Calls Tryz.prog 46 #[v.agg,.int .i64 (k:Int)] W λe w'=>e=.returned (.int .i64 (o:Int))/\Kept 0 0 W w'):=λW=>by rw[<-ho];exact mL W v k (by omega)
     have zA:=BR.cell hS.out.a o (by rw[List.length_set,HAL.out];omega)
     rw[pP (by omega)] at zA
     have HNA:Hid (pD act v (k+1)=(pD act v k||act.getD o false)):=by
      show _=_
      rw[wW,ho]
      rfl
     have HNX':Hid _:=HNX.out
     have hk2:(k:Int)<(cnt v.op:Int):=by omega
     have o1:(0:Int)<=(o:Int):=by omega
     have o2:(o:Int)<(n:Int):=by omega
     have hkw:IntKind.i64.wrap ((k:Int)+1)=(k:Int)+1:=by rw[IntKind.wrap_i64];omega
     have HZA:Hid (∀W,Kept 0 0 wr W->W.cell? ⟨A,o,none⟩=some (.bool (act.getD o false))):=λW kW=>by
      rw[kW.cell (p:=⟨A,o,none⟩) hS.out.a.lt (by omega)];exact zA
     clear ho zA
     go_wp2_with (first|(go_at_call 45;refine Calls.mono (HL1.out _) ?_;rintro e w6 ⟨rfl,rfl⟩)|fail)
     refine Calls.mono (HFD.out wr) ?_
     rintro e w7 ⟨rfl,k7⟩
     have zA:=HZA.out w7 k7
     have HS7:Hid _:=hS.out.keep k7
     have zI:=BR.cell HS7.out.a i (by rw[List.length_set,HAL.out];omega)
     have zF:=BR.free HS7.out.a i
     generalize (act.set i (pD act v k)).getD i false=zz at zI
     clear y1 z0 z1 z2 z3 z4 z5 k7 HZA HFD hS
     cases hb:act.getD o false
     ·rw[hb] at zA
      have HR:Hid (AcS w w7 w.heap.size g2 n A b1 b3 n1 c1 c2 n3 c3 vs (act.set i (pD act v (k+1)))):=by
       show AcS _ _ _ _ _ _ _ _ _ _ _ _ _ _ _
       rw[HNA.out,hb,Bool.or_false]
       exact HS7.out
      clear hb
      go_wp2_with fail
      go_roundw
      case rel=>exact⟨k+1,by omega,by go_num,HR⟩
      case measure=>simp[intOf];omega
     ·rw[hb] at zA
      have HR:Hid (AcS w (w7.setCell ⟨A,i,none⟩ (.bool true)) w.heap.size g2 n A b1 b3 n1 c1 c2 n3 c3 vs (act.set i (pD act v (k+1)))):=by
       have:=HS7.out.set i true
       rw[List.set_set] at this
       show AcS _ _ _ _ _ _ _ _ _ _ _ _ _ _ _
       rw[HNA.out,hb,Bool.or_true]
       exact this
      clear hb
      go_wp2_with fail
      go_roundw
      case rel=>exact⟨k+1,by omega,by go_num,HR⟩
      case measure=>simp[intOf];omega
    ·have hk2:¬((k:Int)<(cnt v.op:Int)):=by omega
     have hke:k=cnt v.op:=by omega
     have HR:Hid (AcS w wr w.heap.size g2 n A b1 b3 n1 c1 c2 n3 c3 vs (iS vs x (m+1))):=by
      show AcS _ _ _ _ _ _ _ _ _ _ _ _ _ _ _
      rw[HNX.out,<-hke]
      exact hS.out
     clear hS hke
     go_wp2_with (first|(go_at_call 45;refine Calls.mono (HL1.out _) ?_;rintro e w6 ⟨rfl,rfl⟩)|fail)
     clear y1 z0 z1 z2 z3 z4 z5
     go_roundw
     case rel=>exact⟨i+1,m+1,by go_num,by have:=HIM.out;omega,by have:=HIM.out;omega,HR⟩
     case measure=>simp[intOf];omega
  ·have hms2:m=s-x:=by omega
   have hi3:¬((i:Int)<=(s:Int)):=by omega
   have HN1:Hid _:=hN.out
   clear hN him
   go_wp2_with fail
   go_ret
   rw[<-hms2]
   exact⟨A,rfl,HN1.out.a,HN1.out.l,HN1.out.k⟩
end
section
open Go.RowKit Flt
variable {w w1 W':World} {sl ins outs mv:List Int} {n Mb n1 A e1 n3 e3 base cap cap' B:Nat} {st:List Vl×List Int} {act:List Bool} {b1 b3 a2 a2':Option Addr} {vs vs2:List Vl} {R R':Option Nat}
structure LK (w W:World)(b1:Option Addr)(n1 e1:Nat)(b3:Option Addr)(n3 e3:Nat)(ins outs:List Int)(vs:List Vl)(base:Nat)(R:Option Nat)(a2:Option Addr)(cap:Nat):Prop where
 g:SG W w.heap.size b1 n1 e1 b3 n3 e3 vs base R a2 cap
 b:RB W (w.heap.size+1) (.slice none 0 0) (.slice none 0 0) (.slice none 0 0)
 i:W.ownsRow base 3 1 (.slice b1 n1 e1) n1 (ins.map (Value.int .i64))
 o:W.ownsRow base 3 1 (.slice b3 n3 e3) n3 (outs.map (Value.int .i64))
 k:Kept 0 0 w W
 hb:w.heap.size+1+1<=base
 a1:j9 (.slice b1 n1 e1) (.slice a2 vs.length cap)
 a3:j9 (.slice b3 n3 e3) (.slice a2 vs.length cap)
 a4:j9 (.slice b1 n1 e1) (.slice b3 n3 e3)
theorem LK.keep {W:World}(h:LK w W b1 n1 e1 b3 n3 e3 ins outs vs base R a2 cap)(k:Kept 0 0 W W'):LK w W' b1 n1 e1 b3 n3 e3 ins outs vs base R a2 cap:=
 {h with g:=h.g.keep k,b:=h.b.keep k,i:=iC h.i k,o:=iC h.o k,k:=h.k.trans k}
structure Farb (w:World)(b1:Option Addr)(n1 e1:Nat)(b3:Option Addr)(n3 e3:Nat)(R:Option Nat)(B:Nat):Prop where
 p:w.heap.size+1+1<=B
 r:R≠some B
 i:(Value.slice b1 n1 e1).ownBlock≠some B
 o:(Value.slice b3 n3 e3).ownBlock≠some B
theorem LK.far {W:World}(h:LK w W b1 n1 e1 b3 n3 e3 ins outs vs base R a2 cap)(hB:W.heap.size<=B):Farb w b1 n1 e1 b3 n3 e3 R B where
 p:=by have:=h.b.sz;omega
 r:=λc=>by have:=(ii h.g.own (h.g.row.trans c)).2;omega
 i:=λc=>by have:=(ii h.i c).2;omega
 o:=λc=>by have:=(ii h.o c).2;omega
theorem LK.other {W:World}(h:LK w W b1 n1 e1 b3 n3 e3 ins outs vs base R a2 cap)(t:Farb w b1 n1 e1 b3 n3 e3 R B)(j:Nat)(u:Value):LK w (W.setCell ⟨B,j,none⟩ u) b1 n1 e1 b3 n3 e3 ins outs vs base R a2 cap:=by
 have hp:=t.p
 have c:∀X o,B≠X->(W.setCell ⟨B,j,none⟩ u).cell? ⟨X,o,none⟩=W.cell? ⟨X,o,none⟩:=λX o hX=>iB _ _ _ _ _ _ (.inl hX)
 obtain⟨bz,t0,t1,t2,x0,x1,x2⟩:=h.b
 exact {
  g:=⟨by simpa using h.g.lt,λo=>by simp[h.g.free o],by rw[c _ _ (by omega)];exact h.g.c0,by rw[c _ _ (by omega)];exact h.g.c1,by rw[c _ _ (by omega)];exact h.g.c2,ir h.g.own (by rw[h.g.row];exact t.r),h.g.row,h.g.ne,by simpa using h.g.sz⟩
  b:=⟨by simpa using bz,by rw[c _ _ (by omega)];exact t0,by rw[c _ _ (by omega)];exact t1,by rw[c _ _ (by omega)];exact t2,by simp[x0],by simp[x1],by simp[x2]⟩
  i:=ir h.i t.i
  o:=ir h.o t.o
  k:=kT w W h.k B j _ (by omega)
  hb:=h.hb,a1:=h.a1,a3:=h.a3,a4:=h.a4}
theorem LK.step {W w2 w3:World}{l h':Nat}(h:LK w W b1 n1 e1 b3 n3 e3 ins outs vs base R a2 cap)(k:Kept 0 0 W w1)
  (own:w2.ownsRow base 31 6 (.slice a2' vs2.length cap') vs2.length (iN vs2)) (row:(Value.slice a2' vs2.length cap').ownBlock=R') (s:StQ (λ_=>False) R w1 R' w2) (k2:Kept l h' w2 w3) (hl:W.heap.size<=l) (hR:∀g,R'=some g->g<l\/h'<=g):
  LK w (iM w3 w.heap.size (.slice b1 n1 e1) (.slice a2' vs2.length cap') (.slice b3 n3 e3)) b1 n1 e1 b3 n3 e3 ins outs vs2 base R' a2' cap'/\StQ (λi=>i=w.heap.size) R W R' (iM w3 w.heap.size (.slice b1 n1 e1) (.slice a2' vs2.length cap') (.slice b3 n3 e3)):=by
 obtain⟨q1,q2⟩:=h.g.put2 k own row s k2 hl hR
 have far:∀B,B<W.heap.size->R≠some B->R'≠some B:=λB hB hR=>by
  rcases q2.row with e|⟨r,e,hr⟩
  ·rw[e];exact hR
  ·rw[e];intro c;cases c;omega
 have ap:∀{b:Option Addr} {n e:Nat} {xs:List Value},W.ownsRow base 3 1 (.slice b n e) n xs->j9 (.slice b n e) (.slice a2 vs.length cap)->(∀g,(Value.slice b n e).ownBlock=some g->R≠some g)/\(Value.slice b n e).ownBlock≠some w.heap.size/\j9 (.slice b n e) (.slice a2' vs2.length cap'):=λho ha=>by
  have h1:∀g,(Value.slice _ _ _).ownBlock=some g->R≠some g:=λg hg=>by rw[<-h.g.row];exact ha g hg
  refine⟨h1,λc=>?_,λg hg=>?_⟩
  ·have:=(ii ho c).1;have:=h.hb;omega
  ·rw[row];exact far g (ii ho hg).2 (h1 g hg)
 obtain⟨i1,i2,i3⟩:=ap h.i h.a1
 obtain⟨o1,o2,o3⟩:=ap h.o h.a3
 have hbQ:R≠some (w.heap.size+1):=λc=>by have:=(ii h.g.own (h.g.row.trans c)).1;have:=h.hb;omega
 exact⟨{
  g:=q1
  b:=h.b.stq q2 (by omega) hbQ
  i:=pO h.i q2 i2 i1
  o:=pO h.o q2 o2 o1
  k:=Chg.kept h.k q2.chg (by
   rintro i (c|c)
   ·omega
   ·have:=(ii h.g.own (h.g.row.trans c)).1;have:=h.hb;omega)
  hb:=h.hb
  a1:=i3
  a3:=o3
  a4:=h.a4},q2⟩
theorem LK.read {W:World}(h:LK w W b1 n1 e1 b3 n3 e3 ins outs vs base R a2 cap)(hn:0<vs.length):
  ∃g,a2=some ⟨g,0,none⟩/\R=some g/\g<W.heap.size/\∀j,j<vs.length->At W g (j*6) (vs.getD j Vl.zero):=by
 obtain⟨g,c,e,_,hg,_,hA⟩:=kU h.g.own hn rfl
 injection e with e1 e2 e3
 subst e1
 exact⟨g,rfl,h.g.row.symm,hg,hA.at_⟩
theorem LK.fin {W:World}(h:LK w W b1 n1 e1 b3 n3 e3 ins outs vs base R a2 cap)(k:Kept 0 0 W W'):
  ((iM W' (w.heap.size+1) (.slice b1 n1 e1) (.slice a2 vs.length cap) (.slice b3 n3 e3)).ownsRow w.heap.size 3 1 (.slice b1 n1 e1) n1 (ins.map (Value.int .i64))/\(iM W' (w.heap.size+1) (.slice b1 n1 e1) (.slice a2 vs.length cap) (.slice b3 n3 e3)).ownsRow w.heap.size 31 6 (.slice a2 vs.length cap) vs.length (iN vs)/\(iM W' (w.heap.size+1) (.slice b1 n1 e1) (.slice a2 vs.length cap) (.slice b3 n3 e3)).ownsRow w.heap.size 3 1 (.slice b3 n3 e3) n3 (outs.map (Value.int .i64)))/\Kept 0 0 w (iM W' (w.heap.size+1) (.slice b1 n1 e1) (.slice a2 vs.length cap) (.slice b3 n3 e3)):=by
 have kp:=iD W' (w.heap.size+1) (.slice b1 n1 e1) (.slice a2 vs.length cap) (.slice b3 n3 e3)
 have hb:=h.hb
 have key:∀{e size n:Nat} {v:Value} {xs:List Value},W.ownsRow base e size v n xs->(iM W' (w.heap.size+1) (.slice b1 n1 e1) (.slice a2 vs.length cap) (.slice b3 n3 e3)).ownsRow w.heap.size e size v n xs:=λho=>
  jP (iR (iC ho k) kp (λg hg=>by have:=(ii ho hg).1;omega)) (by omega)
 exact⟨⟨key h.i,key h.g.own,key h.o⟩,Kept.new (h.k.trans k) kp (by omega)⟩
theorem LK.call {W W1:World}(h:LK w W b1 n1 e1 b3 n3 e3 ins outs vs base R a2 cap)(k:Kept 0 0 W W1)(u:Vl)(hn:vs.length<=1000000):
  Calls Tryz.prog 50 #[ip b1 n1 e1 a2 vs.length cap b3 n3 e3,u.agg] W1 λe w2=>∃g' cap',e=.returned (ip b1 n1 e1 (some ⟨g',0,none⟩) (vs.length+1) cap' b3 n3 e3)/\
   (∃u,w2.cell? ⟨w.heap.size,0,none⟩=some u)/\(∃u,w2.cell? ⟨w.heap.size,1,none⟩=some u)/\(∃u,w2.cell? ⟨w.heap.size,2,none⟩=some u)/\(∀o,w2.frozen? ⟨w.heap.size,o,none⟩=false)/\
   Hid (LK w (iM w2 w.heap.size (.slice b1 n1 e1) (.slice (some ⟨g',0,none⟩) (vs.length+1) cap') (.slice b3 n3 e3)) b1 n1 e1 b3 n3 e3 ins outs (vs++[u]) base (some g') (some ⟨g',0,none⟩) cap'/\StQ (λi=>i=w.heap.size) R W (some g') (iM w2 w.heap.size (.slice b1 n1 e1) (.slice (some ⟨g',0,none⟩) (vs.length+1) cap') (.slice b3 n3 e3))):=by
 have h1:=h.keep k
 refine(rF W1 b1 a2 b3 n1 e1 cap n3 e3 base vs u h1.g.own h1.g.sz hn).mono ?_
 rintro e w2 ⟨g',cap',rfl,own,s⟩
 rw[h.g.row] at s
 have hb:w2.heap[w.heap.size]? =W1.heap[w.heap.size]?:=s.chg.block w.heap.size h1.g.lt (by rintro (c|c);exact c;exact h.g.ne c)
 have e:∀o,w2.cell? ⟨w.heap.size,o,none⟩=W1.cell? ⟨w.heap.size,o,none⟩:=λo=>World.cell?_of_block (w:=W1) (a:=⟨w.heap.size,o,none⟩) hb
 have ef:∀o,w2.frozen? ⟨w.heap.size,o,none⟩=W1.frozen? ⟨w.heap.size,o,none⟩:=λo=>World.frozen?_of_block (w:=W1) (a:=⟨w.heap.size,o,none⟩) hb
 have hl:(vs++[u]).length=vs.length+1:=by simp
 have key:=h.step (vs2:=vs++[u]) (a2':=some ⟨g',0,none⟩) (cap':=cap') (l:=W.heap.size) (h':=W.heap.size) k (by rw[hl];exact own) (R':=some g') rfl s ((Kept.refl 0 0 w2).mono λ_ _ c=>by omega) (Nat.le_refl _) (λg _=>by omega)
 rw[hl] at key
 exact⟨g',cap',rfl,⟨_,(e 0).trans h1.g.c0⟩,⟨_,(e 1).trans h1.g.c1⟩,⟨_,(e 2).trans h1.g.c2⟩,λo=>by rw[ef];exact h1.g.free o,key⟩
structure LG (w W:World)(Mb A:Nat)(b1:Option Addr)(n1 e1:Nat)(b3:Option Addr)(n3 e3:Nat)(ins outs:List Int)(vs:List Vl)(mv:List Int)(act:List Bool)(base:Nat)(R:Option Nat)(a2:Option Addr)(cap:Nat):Prop where
 l:LK w W b1 n1 e1 b3 n3 e3 ins outs vs base R a2 cap
 m:IR W Mb mv
 a:BR W A act
 fm:Farb w b1 n1 e1 b3 n3 e3 R Mb
 fa:Farb w b1 n1 e1 b3 n3 e3 R A
 ne:Mb≠A
theorem LG.keep {W:World}(h:LG w W Mb A b1 n1 e1 b3 n3 e3 ins outs vs mv act base R a2 cap)(k:Kept 0 0 W W'):LG w W' Mb A b1 n1 e1 b3 n3 e3 ins outs vs mv act base R a2 cap:=
 ⟨h.l.keep k,h.m.keep k (.inr (.inr (Nat.le_refl _))),h.a.keep k (.inr (.inr (Nat.le_refl _))),h.fm,h.fa,h.ne⟩
theorem LG.set {W:World}(h:LG w W Mb A b1 n1 e1 b3 n3 e3 ins outs vs mv act base R a2 cap)(j:Nat)(r:Int):LG w (W.setCell ⟨Mb,j,none⟩ (.int .i64 r)) Mb A b1 n1 e1 b3 n3 e3 ins outs vs (mv.set j r) act base R a2 cap:=
 ⟨h.l.other h.fm j _,h.m.set j r,h.a.keepC (iH (S:=λq=>q=Mb) W Mb j (.int .i64 r) rfl) (λe=>h.ne e.symm),h.fm,h.fa,h.ne⟩
theorem LG.stq {W:World}(h:LG w W Mb A b1 n1 e1 b3 n3 e3 ins outs vs mv act base R a2 cap)(l:LK w W' b1 n1 e1 b3 n3 e3 ins outs vs2 base R' a2' cap')(q:StQ (λi=>i=w.heap.size) R W R' W'):LG w W' Mb A b1 n1 e1 b3 n3 e3 ins outs vs2 mv act base R' a2' cap':=by
 have far:∀{B},B<W.heap.size->Farb w b1 n1 e1 b3 n3 e3 R B->Farb w b1 n1 e1 b3 n3 e3 R' B:=λhB t=>⟨t.p,by
  rcases q.row with e|⟨r,e,hr⟩
  ·rw[e];exact t.r
  ·rw[e];intro c;cases c;omega,t.i,t.o⟩
 refine⟨l,h.m.stq q (by have:=h.fm.p;omega) h.fm.r,h.a.keepC q.chg ?_,far h.m.lt h.fm,far h.a.lt h.fa,h.ne⟩
 rintro (c|c)
 ·have:=h.fa.p;omega
 ·exact h.fa.r c
def gdn (vs:List Vl)(act:List Bool)(s:Nat):Nat->List Vl×List Int
 |0=>ky vs s
 |j+1=>giM vs act (s-j) (gdn vs act s j)
theorem oO (vs:List Vl)(act:List Bool)(s x:Nat):∀k,k<=s-x->km vs act x (ky vs s) ((List.range k).map (λi=>(s-x)-1-i))=gdn vs act s k
 |0,_=>rfl
 |k+1,h=>by
  rw[List.range_succ,List.map_append,List.map_cons,List.map_nil,qo,oO vs act s x k (by omega),gdn]
  rw[show x+1+(s-x-1-k)=s-k by omega]
def qX (n:Nat)(act:List Bool)(sl:List Int):Prop:=∀q,q<n->sl.getD q 0=-1\/(0<=sl.getD q 0/\act.getD q false=true)
theorem Dm {p:Prop}[Decidable p]{a b:List Vl×Int}(ha:0<=a.2)(hb:0<=b.2):0<=(if p then a else b).2:=by split<;>assumption
theorem Dn (i:Int)(v:Vl)(la:Int)(k:Nat)(d:Int)(N:Nat)(hd:0<=d):0<=(iW i v la k d N).2:=by
 unfold iW
 repeat' (apply Dm)
 all_goals (simp only;omega)
theorem qv {o:Nat}{p:Int}(h:qX n act sl)(hl:sl.length=n)(hp:0<=p)(ha:act.getD o false=true):qX n act (sl.set o p):=λq hq=>by
 rw[List.getD_eq_getElem?_getD,List.getElem?_set]
 by_cases e:o=q
 ·subst e
  rw[if_pos rfl,if_pos (by omega)]
  exact .inr ⟨hp,ha⟩
 ·rw[if_neg e,<-List.getD_eq_getElem?_getD]
  exact h q hq
theorem AX {i k:Nat}(h:qX n act st.2)(hl:st.2.length=n)(hd:0<=st.2.getD i 0):qX n act (gkM vs act i k st).2:=by
 unfold gkM
 split
 ·rename_i hc
  unfold jF
  split
  ·exact qv h hl (Dn _ _ _ _ _ _ hd) hc.1
  ·exact qv h hl (by simp only;omega) hc.1
 ·exact h
theorem wY {o i:Nat}{p:Int}(h:o≠i):(jF vs o p st).2.getD i 0=st.2.getD i 0:=by
 unfold jF
 split<;>(simp only;rw[List.getD_eq_getElem?_getD,List.getElem?_set,if_neg h,<-List.getD_eq_getElem?_getD])
theorem AY {i k:Nat}(h:(fld (vs.getD i Vl.zero) k).toNat≠i):(gkM vs act i k st).2.getD i 0=st.2.getD i 0:=by
 unfold gkM
 split
 ·rw[wY h]
 ·rfl
theorem qw {vs:List Vl}{act:List Bool}{i:Nat}{st:List Vl×List Int}:∀k,(∀q,q<k->(fld (vs.getD i Vl.zero) q).toNat≠i)->(jl vs act i st k).2.getD i 0=st.2.getD i 0
 |0,_=>rfl
 |k+1,h=>by rw[jl,AY (h k (Nat.lt_succ_self _)),qw k (λq hq=>h q (by omega))]
theorem qx {vs:List Vl}{act:List Bool}{n i:Nat}{st:List Vl×List Int}(h:qX n act st.2)(hl:st.2.length=n)(hd:0<=st.2.getD i 0):∀k,(∀q,q<k->(fld (vs.getD i Vl.zero) q).toNat≠i)->qX n act (jl vs act i st k).2
 |0,_=>h
 |k+1,hf=>AX (qx h hl hd k (λq hq=>hf q (by omega))) (by rw[oL];exact hl) (by rw[qw k (λq hq=>hf q (by omega))];exact hd)
theorem AZ {i:Nat}(h:qX n act st.2)(hl:st.2.length=n)(hi:i<n)(hf:∀q,q<cnt (vs.getD i Vl.zero).op->(fld (vs.getD i Vl.zero) q).toNat≠i):qX n act (giM vs act i st).2:=by
 unfold giM
 split
 ·exact h
 ·rename_i hc
  exact qx h hl (by rcases h i hi with c|c;exact absurd c hc;exact c.1) _ hf
structure GdI (vs:List Vl)(act:List Bool)(n:Nat)(L:Nat)(C:Int)(st:List Vl×List Int):Prop where
 i:qX n act st.2
 l:st.2.length=n
 p:Pre vs st.1
 z:SzU L C st.1
theorem vU {vs:List Vl}{act:List Bool}{n s:Nat}(hn:vs.length=n)(hs:s<n)(hz:SzU 2000 50000 vs)(hL:LnB vs)(ha:act.getD s false=true)(hf:∀i,i<n->∀q,q<cnt (vs.getD i Vl.zero).op->(fld (vs.getD i Vl.zero) q).toNat≠i):∀j,j<=s->GdI vs act n (2001+12*j) (51000+12000*(j:Int)) (gdn vs act s j)
 |0,_=>by
  refine⟨?_,by simp[gdn,ky,hn],⟨_,rfl⟩,?_⟩
  ·refine qv (λq hq=>.inl ?_) (by simp;exact hn) (by omega) ha
   rw[List.getD_eq_getElem?_getD,List.getElem?_replicate,if_pos (by omega)]
   rfl
  ·exact(SzU.app (L':=1) (C':=1000) hz ⟨by simp,by simp[ig],by simp[ig]⟩).mono (by omega) (by omega)
 |j+1,h=>by
  have ih:=vU hn hs hz hL ha hf j (by omega)
  exact⟨AZ ih.i ih.l (by omega) (hf _ (by omega)),by rw[gdn,vP];exact ih.l,vO ih.p,(yh hL ih.z).mono (by omega) (by omega)⟩
theorem mE {s q:Nat}(h:q<=s):(sl.take (s+1)).getD q 0=sl.getD q 0:=by
 rw[List.getD_eq_getElem?_getD,List.getElem?_take,if_pos (by omega),<-List.getD_eq_getElem?_getD]
theorem po (sl:List Int)(s o:Nat)(p:Int):(sl.take (s+1)).set o p=(sl.set o p).take (s+1):=List.take_set.symm
theorem wZ (vs:List Vl)(s:Nat)(hs:s<vs.length):(List.replicate (s+1) (-1:Int)).set s (vs.length:Nat)=(ky vs s).2.take (s+1):=by
 unfold ky
 simp only
 rw[<-po,List.take_replicate,show min (s+1) vs.length=s+1 by omega]
def Do (w w':World)(n1 n3:Nat)(ins outs:List Int)(M:List Vl×Int)(e:Ending):Prop:=
 ∃b1 d1 b3 d3 a2 cap,e=.returned (.tuple #[ip b1 n1 d1 a2 M.1.length cap b3 n3 d3,.int .i64 M.2])/\w'.ownsRow w.heap.size 3 1 (.slice b1 n1 d1) n1 (ins.map (Value.int .i64))/\w'.ownsRow w.heap.size 31 6 (.slice a2 M.1.length cap) M.1.length (iN M.1)/\w'.ownsRow w.heap.size 3 1 (.slice b3 n3 d3) n3 (outs.map (Value.int .i64))
theorem LK.start {n2 d1 d2 d3:Nat}{g:Obj}{u0 u1 u2:Value}(hn:vs.length=n2)
  (hG:G0 ((w.alloc g).alloc iw) w.heap.size u0 u1 u2) (hf:∀o,((w.alloc g).alloc iw).frozen? ⟨w.heap.size,o,none⟩=false) (hR:RB ((w.alloc g).alloc iw) (w.heap.size+1) (.slice none 0 0) (.slice none 0 0) (.slice none 0 0)) (k:Kept 0 0 ((w.alloc g).alloc iw) w1) (hbz:w.heap.size+1+1<=base) (hbs:base<=w1.heap.size)
  (o1:w1.ownsRow base 3 1 (.slice b1 n1 d1) n1 (ins.map (Value.int .i64))) (o2:w1.ownsRow base 31 6 (.slice a2 n2 d2) n2 (iN vs)) (o3:w1.ownsRow base 3 1 (.slice b3 n3 d3) n3 (outs.map (Value.int .i64)))
  (q1:j9 (.slice a2 n2 d2) (.slice b1 n1 d1)) (q2:j9 (.slice a2 n2 d2) (.slice b3 n3 d3)) (q3:j9 (.slice b1 n1 d1) (.slice b3 n3 d3)):
  LK w (iM w1 w.heap.size (.slice b1 n1 d1) (.slice a2 n2 d2) (.slice b3 n3 d3)) b1 n1 d1 b3 n3 d3 ins outs vs base (Value.slice a2 n2 d2).ownBlock a2 d2:=by
 have kp:=iD w1 w.heap.size (.slice b1 n1 d1) (.slice a2 n2 d2) (.slice b3 n3 d3)
 have kk:=hG.keep k
 obtain⟨y0,y1,y2⟩:=iy w1 w.heap.size _ _ _ kk.q0 kk.q1 kk.q2 (.slice b1 n1 d1) (.slice a2 n2 d2) (.slice b3 n3 d3)
 have key:∀{e size n:Nat} {v:Value} {xs:List Value},w1.ownsRow base e size v n xs->(iM w1 w.heap.size (.slice b1 n1 d1) (.slice a2 n2 d2) (.slice b3 n3 d3)).ownsRow base e size v n xs/\(∀B,v.ownBlock=some B->w.heap.size+1+1<=B/\B<w1.heap.size):=λh=>
  ⟨iR h kp (λb hb=>by have:=(ii h hb).1;omega),λB hB=>by have:=ii h hB;omega⟩
 obtain⟨p1,r1⟩:=key o1
 obtain⟨p2,r2⟩:=key o2
 obtain⟨p3,r3⟩:=key o3
 have kn:Kept 0 0 w ((w.alloc g).alloc iw):=(hU 0 0 w _).trans (hU 0 0 _ _)
 have hsz:w.heap.size<(iM w1 w.heap.size (.slice b1 n1 d1) (.slice a2 n2 d2) (.slice b3 n3 d3)).heap.size:=Nat.lt_of_lt_of_le kk.sz kp.size
 have hRB:RB (iM w1 w.heap.size (.slice b1 n1 d1) (.slice a2 n2 d2) (.slice b3 n3 d3)) (w.heap.size+1) (.slice none 0 0) (.slice none 0 0) (.slice none 0 0):=by
  obtain⟨bz,t0,t1,t2,x0,x1,x2⟩:=hR.keep k
  have c:∀o,(iM w1 w.heap.size (.slice b1 n1 d1) (.slice a2 n2 d2) (.slice b3 n3 d3)).cell? ⟨w.heap.size+1,o,none⟩=w1.cell? ⟨w.heap.size+1,o,none⟩:=λo=>kp.cell (p:=⟨w.heap.size+1,o,none⟩) bz (by show ¬(w.heap.size<=w.heap.size+1/\w.heap.size+1<w.heap.size+1);omega)
  have fz:∀o,(iM w1 w.heap.size (.slice b1 n1 d1) (.slice a2 n2 d2) (.slice b3 n3 d3)).frozen? ⟨w.heap.size+1,o,none⟩=w1.frozen? ⟨w.heap.size+1,o,none⟩:=λo=>kp.frozen (p:=⟨w.heap.size+1,o,none⟩) bz (by show ¬(w.heap.size<=w.heap.size+1/\w.heap.size+1<w.heap.size+1);omega)
  exact⟨Nat.lt_of_lt_of_le bz kp.size,by rw[c];exact t0,by rw[c];exact t1,by rw[c];exact t2,by rw[fz];exact x0,by rw[fz];exact x1,by rw[fz];exact x2⟩
 have z2:=kp.size
 subst hn
 exact {
  g:=⟨hsz,λo=>by
    unfold iM
    simp[k.frozen (p:=⟨w.heap.size,o,none⟩) hG.sz (by omega),hf o],y0,y1,y2,p2,rfl,λc=>by have:=r2 _ c;omega,Nat.le_trans hbs z2⟩
  b:=hRB
  i:=p1
  o:=p3
  k:=Kept.new (kn.trans k) kp (Nat.le_refl _)
  hb:=hbz
  a1:=λB h1 h2=>q1 B h2 h1
  a3:=λB h1 h2=>q2 B h2 h1
  a4:=q3}
end
section
open Go.RowKit Flt Ieee
variable {vs fs:List Vl} {Z D:Nat->Nat->Int} {T:Nat->Int} {s x i k:Nat} {act:List Bool} {st:List Vl×List Int}
theorem xd (vs:List Vl)(o:Nat)(p:Int)(st:List Vl×List Int):∃r,(jF vs o p st).1=st.1++r:=by
 unfold jF
 split
 ·exact⟨[],by simp⟩
 ·exact⟨_,rfl⟩
theorem A0 (vs:List Vl)(act:List Bool)(i k:Nat)(st:List Vl×List Int):∃r,(gkM vs act i k st).1=st.1++r:=by
 unfold gkM
 split
 ·obtain⟨r,e⟩:=xd vs (fld (vs.getD i Vl.zero) k).toNat (iW (i:Int) (vs.getD i Vl.zero) (laM vs i) k (st.2.getD i 0) st.1.length).2 (st.1++(iW (i:Int) (vs.getD i Vl.zero) (laM vs i) k (st.2.getD i 0) st.1.length).1,st.2)
  exact⟨_,by rw[e,List.append_assoc]⟩
 ·exact⟨[],by simp⟩
theorem qy (vs:List Vl)(act:List Bool)(i:Nat)(st:List Vl×List Int)(k:Nat):∀p,∃r,(jl vs act i st (k+p)).1=(jl vs act i st k).1++r
 |0=>⟨[],by simp⟩
 |p+1=>by
  obtain⟨r,e⟩:=qy vs act i st k p
  obtain⟨r',e'⟩:=A0 vs act i (k+p) (jl vs act i st (k+p))
  exact⟨r++r',by rw[<-Nat.add_assoc,jl,e',e,List.append_assoc]⟩
theorem vV (vs:List Vl)(act:List Bool)(i:Nat)(st:List Vl×List Int):∃r,(giM vs act i st).1=st.1++r:=by
 unfold giM
 split
 ·exact⟨[],by simp⟩
 ·obtain⟨r,e⟩:=qy vs act i st 0 (cnt (vs.getD i Vl.zero).op)
  rw[Nat.zero_add] at e
  exact⟨r,e⟩
theorem vW (vs:List Vl)(act:List Bool)(s j:Nat):∀p,∃r,(gdn vs act s (j+p)).1=(gdn vs act s j).1++r
 |0=>⟨[],by simp⟩
 |p+1=>by
  obtain⟨r,e⟩:=vW vs act s j p
  obtain⟨r',e'⟩:=vV vs act (s-(j+p)) (gdn vs act s (j+p))
  exact⟨r++r',by rw[<-Nat.add_assoc,gdn,e',e,List.append_assoc]⟩
theorem rJ {a b:List Vl}(h:∃r,fs=b++r)(h':∃r,b=a++r):∃r,fs=a++r:=by
 obtain⟨r,e⟩:=h
 obtain⟨r',e'⟩:=h'
 exact⟨r'++r,by rw[e,e',List.append_assoc]⟩
def Slp (vs fs:List Vl)(N:Nat)(sl:List Int):Prop:=∀i,i<vs.length->sl.getD i 0=-1\/(0<=sl.getD i 0/\(sl.getD i 0).toNat<N/\ln fs (sl.getD i 0).toNat=ln vs i)
def ctr (vs:List Vl)(Z D:Nat->Nat->Int)(sl:List Int)(i:Nat):Int:=if sl.getD i 0=-1 then 0 else ld (Z (sl.getD i 0).toNat) (D i) (ln vs i)
theorem yG (h:DV vs fs Z D T s x)(hi:i<vs.length)(hk:k<cnt (vd vs i).op):(fld (vd vs i) k).toNat<i:=by
 have S:=h.sh i hi
 have hw:=h.wh i hi
 have Sa:=S.a
 have S2:=S.two
 unfold whO at hw
 have e:k=0\/k=1:=by have:=vj hw;omega
 rcases hw with c|c|c|c|c|c|c|c|c|c
 all_goals first
  |(exfalso;rw[c] at hk;revert hk;exact Nat.not_lt_zero _)
  |(rcases e with rfl|rfl
    ·exact(Sa (by omega) (by omega)).2
    ·first|exact(S2 (.inl c)).2.1|exact(S2 (.inr (.inl c))).2.1|exact(S2 (.inr (.inr c))).2.1|(exfalso;rw[c] at hk;revert hk;decide))
theorem E4 (h:DV vs fs Z D T s x){N:Nat}(hi:i<=s)(hk:k<cnt (vd vs i).op){d:Int}(d0:0<=d)(d1:d.toNat<N)(d2:ln fs d.toNat=ln vs i)
  (hL:∀q,q<(iW (i:Int) (vd vs i) (laM vs i) k d N).1.length->Lay fs (N+q) ((iW (i:Int) (vd vs i) (laM vs i) k d N).1.getD q Vl.zero)):
  0<=(iW (i:Int) (vd vs i) (laM vs i) k d N).2/\(iW (i:Int) (vd vs i) (laM vs i) k d N).2.toNat<N+(iW (i:Int) (vd vs i) (laM vs i) k d N).1.length/\ln fs (iW (i:Int) (vd vs i) (laM vs i) k d N).2.toNat=ln vs (fld (vd vs i) k).toNat/\∀e,e<ln vs (fld (vd vs i) k).toNat->Z (iW (i:Int) (vd vs i) (laM vs i) k d N).2.toNat e=pz vs Z i (Z d.toNat) k e:=by
 have hi':i<vs.length:=Nat.lt_of_le_of_lt hi h.s
 have S:=h.sh i hi'
 have hw:=h.wh i hi'
 have hz:∀{q:Nat} {u:Vl},Lay fs q u->u.op≠0->∀k,k<u.len.toNat->Z q k=jm fs Z q k:=λ{q u} hl h0 k hk=>h.z q hl.lt k (show k<(vd fs q).len.toNat by rw[hl.is];exact hk) (by rw[hl.is];exact h0)
 have Sl:=S.len
 have S2:=S.two
 have S6:=S.neg
 have S9:=S.sum
 have S10:=S.fill
 have S11:=S.pick
 have S12:=S.put
 have hla:(laM vs i).toNat=ln vs (vd vs i).a.toNat:=rfl
 have f0:fld (vd vs i) 0=(vd vs i).a:=rfl
 have f1:fld (vd vs i) 1=(vd vs i).b:=rfl
 have new:∀(u:Vl),(iW (i:Int) (vd vs i) (laM vs i) k d N)=([u],(N:Int))->u.op≠0->u.len.toNat=ln vs (fld (vd vs i) k).toNat->(∀e,e<ln vs (fld (vd vs i) k).toNat->vd fs N=u->jm fs Z N e=pz vs Z i (Z d.toNat) k e)->0<=(iW (i:Int) (vd vs i) (laM vs i) k d N).2/\(iW (i:Int) (vd vs i) (laM vs i) k d N).2.toNat<N+(iW (i:Int) (vd vs i) (laM vs i) k d N).1.length/\ln fs (iW (i:Int) (vd vs i) (laM vs i) k d N).2.toNat=ln vs (fld (vd vs i) k).toNat/\∀e,e<ln vs (fld (vd vs i) k).toNat->Z (iW (i:Int) (vd vs i) (laM vs i) k d N).2.toNat e=pz vs Z i (Z d.toNat) k e:=λu e h0 hlen hzz=>by
  rw[e] at hL ⊢
  have hl:Lay fs N u:=hL 0 (Nat.zero_lt_succ _)
  refine⟨by simp only;omega,by simp,?_,λq hq=>?_⟩
  ·show(vd fs N).len.toNat=_
   rw[hl.is,hlen]
  ·show Z N q=_
   rw[hz hl h0 q (by omega)]
   exact hzz q hq hl.is
 have old:iW (i:Int) (vd vs i) (laM vs i) k d N=([],d)->ln vs i=ln vs (fld (vd vs i) k).toNat->(∀e,pz vs Z i (Z d.toNat) k e=Z d.toNat e)->0<=(iW (i:Int) (vd vs i) (laM vs i) k d N).2/\(iW (i:Int) (vd vs i) (laM vs i) k d N).2.toNat<N+(iW (i:Int) (vd vs i) (laM vs i) k d N).1.length/\ln fs (iW (i:Int) (vd vs i) (laM vs i) k d N).2.toNat=ln vs (fld (vd vs i) k).toNat/\∀e,e<ln vs (fld (vd vs i) k).toNat->Z (iW (i:Int) (vd vs i) (laM vs i) k d N).2.toNat e=pz vs Z i (Z d.toNat) k e:=λe hlen hzz=>by
  rw[e]
  exact⟨d0,by simpa using d1,by rw[<-hlen];exact d2,λq _=>(hzz q).symm⟩
 have hk2:k=0\/k=1:=by have:=vj hw;omega
 unfold whO at hw
 rcases hw with c|c|c|c|c|c|c|c|c|c
 ·exfalso;rw[c] at hk;revert hk;exact Nat.not_lt_zero _
 ·exfalso;rw[c] at hk;revert hk;exact Nat.not_lt_zero _
 ·obtain⟨_,_,la,lb⟩:=S2 (.inl c)
  refine old (by unfold iW;rw[if_pos c]) ?_ λe=>by unfold pz;rw[if_pos c]
  rcases hk2 with rfl|rfl
  ·rw[f0,la]
  ·rw[f1,lb]
 ·obtain⟨_,_,la,lb⟩:=S2 (.inr (.inl c))
  rcases hk2 with rfl|rfl
  ·exact old (by unfold iW;rw[c];rfl) (by rw[f0,la]) λe=>by unfold pz;rw[c];rfl
  ·refine new (ik 6 (vd vs i).len d 0 0) (by unfold iW;rw[c];rfl) (by simp) (by rw[f1,lb]) λe he hv=>?_
   unfold jm pz
   rw[hv,c]
   rfl
 ·obtain⟨_,_,la,lb⟩:=S2 (.inr (.inr c))
  rcases hk2 with rfl|rfl
  ·refine new (ik 4 (vd vs i).len d (vd vs i).b 0) (by unfold iW;rw[c];rfl) (by simp) (by rw[f0,la]) λe he hv=>?_
   unfold jm pz
   rw[hv,c]
   rfl
  ·refine new (ik 4 (vd vs i).len d (vd vs i).a 0) (by unfold iW;rw[c];rfl) (by simp) (by rw[f1,lb]) λe he hv=>?_
   unfold jm pz
   rw[hv,c]
   rfl
 all_goals
  have e0:k=0:=by rw[show cnt (vd vs i).op=1 by rw[c];decide] at hk;omega
  subst e0
 ·refine new (ik 6 (vd vs i).len d 0 0) (by unfold iW;rw[c];rfl) (by simp) (by rw[f0,S6 c]) λe he hv=>?_
  unfold jm pz
  rw[hv,c]
  rfl
 ·refine new (ik 10 (laM vs i) d 0 0) (by unfold iW;rw[c];rfl) (by simp) (by rw[f0];exact hla) λe he hv=>?_
  unfold jm pz
  rw[hv,c]
  rfl
 ·refine new (ik 9 1 d 0 0) (by unfold iW;rw[c];rfl) (by simp) (by rw[f0,S10 c];rfl) λe he hv=>?_
  unfold jm pz
  rw[hv,c]
  show iX (Z d.toNat) (ln fs d.toNat)=iX _ _
  rw[d2]
 ·refine new (ik 12 (laM vs i) d 0 (vd vs i).c) (by unfold iW;rw[c];rfl) (by simp) (by rw[f0];exact hla) λe he hv=>?_
  unfold jm pz
  rw[hv,c]
  rfl
 ·refine new (ik 11 1 d 0 (vd vs i).c) (by unfold iW;rw[c];rfl) (by simp) (by rw[f0,(S12 c).1];rfl) λe he hv=>?_
  unfold jm pz
  rw[hv,c]
  rfl
theorem yH {us:List Vl}{v:Vl}:us.length<(us++[v]).length:=by simp
theorem A1 {v:Vl}(hw:whO v.op)(k:Nat):ku v k=true:=by
 unfold ku
 have:(v.op==8)=false:=beq_eq_false_iff_ne.2 (by unfold whO at hw;omega)
 rw[this];rfl
theorem A2 (h:DV vs fs Z D T s x)(hact:∀o,o<=s->act.getD o false=false->∀e,e<ln vs o->D o e=0)(hi:i<=s)(hk:k<cnt (vd vs i).op)(hsl:Slp vs fs st.1.length st.2)(hlen:st.2.length=vs.length)(hd:st.2.getD i 0≠-1)(hfs:∃r,fs=(gkM vs act i k st).1++r):
  Slp vs fs (gkM vs act i k st).1.length (gkM vs act i k st).2/\(gkM vs act i k st).2.length=vs.length/\(gkM vs act i k st).2.getD i 0=st.2.getD i 0/\
  iX (ctr vs Z D (gkM vs act i k st).2) i=iX (ctr vs Z D st.2) i+ld (pz vs Z i (Z (st.2.getD i 0).toNat) k) (D (fld (vd vs i) k).toNat) (ln vs (fld (vd vs i) k).toNat):=by
 have hi':i<vs.length:=Nat.lt_of_le_of_lt hi h.s
 have ho:=yG h hi' hk
 unfold gkM at hfs ⊢
 by_cases ha:act.getD (fld (vd vs i) k).toNat false=true
 ·rw[if_pos ⟨ha,A1 (h.wh i hi') k⟩] at hfs ⊢
  rcases hsl i hi' with c|⟨d0,d1,d2⟩
  ·exact absurd c hd
  unfold jF at hfs ⊢
  generalize hP:iW (i:Int) (vs.getD i Vl.zero) (laM vs i) k (st.2.getD i 0) st.1.length=P at hfs ⊢
  simp only at hfs ⊢
  have hext:∃r,fs=st.1++P.1++r:=by
   split at hfs
   ·exact hfs
   ·obtain⟨r,e⟩:=hfs
    exact⟨_,by rw[e,List.append_assoc]⟩
  obtain⟨r0,hr0⟩:=hext
  obtain⟨p0,p1,p2,p3⟩:=E4 h hi hk d0 d1 d2 λq hq=>by
   show Lay fs (st.1.length+q) ((iW (i:Int) (vs.getD i Vl.zero) (laM vs i) k (st.2.getD i 0) st.1.length).1.getD q Vl.zero)
   rw[show(iW (i:Int) (vs.getD i Vl.zero) (laM vs i) k (st.2.getD i 0) st.1.length)=P from hP]
   exact pl hr0 (by rw[<-hP];exact hq)
  rw[show(iW (i:Int) (vd vs i) (laM vs i) k (st.2.getD i 0) st.1.length)=P from hP] at p0 p1 p2 p3
  generalize hO:(fld (vs.getD i Vl.zero) k).toNat=o at ho hfs ha p2 p3 ⊢
  have ho':o<st.2.length:=by omega
  by_cases e:st.2.getD o 0=-1
  ·rw[if_pos e] at hfs ⊢
   simp only at hfs ⊢
   refine⟨λj hj=>?_,by rw[List.length_set];exact hlen,jh (by omega),?_⟩
   ·by_cases ej:o=j
    ·subst ej
     rw[jG ho']
     exact .inr ⟨p0,by rw[List.length_append];exact p1,p2⟩
    ·rw[jh ej]
     rcases hsl j hj with q|⟨q1,q2,q3⟩
     ·exact .inl q
     ·exact .inr ⟨q1,by rw[List.length_append];omega,q3⟩
   ·refine uk i ho λj hj=>?_
    unfold ctr
    by_cases ej:j=o
    ·subst ej
     rw[jG ho',if_neg (by omega),if_pos e,if_pos rfl,Int.zero_add]
     exact og p3 λ_ _=>rfl
    ·rw[jh (λc=>ej c.symm),if_neg ej,Int.add_zero]
  ·rw[if_neg e] at hfs ⊢
   simp only at hfs ⊢
   obtain⟨r1,hr1⟩:=hfs
   rcases hsl o (by omega) with c|⟨s0,s1,s2⟩
   ·exact absurd c e
   have hl:=pl (us:=st.1++P.1) (q:=0) hr1 (Nat.zero_lt_succ _)
   rw[Nat.add_zero] at hl
   have hll:ln fs (st.1++P.1).length=ln vs o:=by show(vd fs _).len.toNat=_;rw[hl.is];rfl
   have hN:((((st.1++P.1).length:Nat):Int)).toNat=(st.1++P.1).length:=rfl
   refine⟨λj hj=>?_,by rw[List.length_set];exact hlen,jh (by omega),?_⟩
   ·by_cases ej:o=j
    ·subst ej
     rw[jG ho']
     exact .inr ⟨by omega,by rw[hN];exact yH,by rw[hN];exact hll⟩
    ·rw[jh ej]
     rcases hsl j hj with q|⟨q1,q2,q3⟩
     ·exact .inl q
     ·exact .inr ⟨q1,by rw[List.length_append,List.length_append];omega,q3⟩
   ·refine uk i ho λj hj=>?_
    unfold ctr
    by_cases ej:j=o
    ·subst ej
     rw[jG ho',if_neg (by omega),if_neg e,if_pos rfl,<-yz]
     refine og (λq hq=>?_) λ_ _=>rfl
     rw[hN,h.z _ hl.lt q (by omega) (by rw[hl.is];simp:(vd fs _).op≠0),<-p3 q hq]
     unfold jm
     rw[hl.is]
     rfl
    ·rw[jh (λc=>ej c.symm),if_neg ej,Int.add_zero]
 ·rw[if_neg (λc=>ha c.1)]
  refine⟨hsl,hlen,rfl,?_⟩
  rw[mD (hact _ (by omega) (by simpa using ha)),Int.add_zero]
theorem yI {vs fs:List Vl}{Z D:Nat->Nat->Int}{T:Nat->Int}{s x:Nat}(h:DV vs fs Z D T s x){act:List Bool}(hact:∀o,o<=s->act.getD o false=false->∀e,e<ln vs o->D o e=0){i:Nat}(hi:i<=s){st:List Vl×List Int}(hsl:Slp vs fs st.1.length st.2)(hlen:st.2.length=vs.length)(hd:st.2.getD i 0≠-1):
  ∀k,k<=cnt (vd vs i).op->(∃r,fs=(jl vs act i st k).1++r)->Slp vs fs (jl vs act i st k).1.length (jl vs act i st k).2/\(jl vs act i st k).2.length=vs.length/\(jl vs act i st k).2.getD i 0=st.2.getD i 0/\
  iX (ctr vs Z D (jl vs act i st k).2) i=iX (ctr vs Z D st.2) i+mW vs Z D i (Z (st.2.getD i 0).toNat) k
 |0,_,_=>⟨hsl,hlen,rfl,by simp[jl,mW]⟩
 |k+1,hk,hfs=>by
  obtain⟨i1,i2,i3,i4⟩:=yI h hact hi hsl hlen hd k (by omega) (rJ hfs (qy vs act i st k 1))
  obtain⟨j1,j2,j3,j4⟩:=A2 h hact hi (by omega) i1 i2 (by rw[i3];exact hd) hfs
  refine⟨j1,j2,j3.trans i3,?_⟩
  rw[show jl vs act i st (k+1)=gkM vs act i k (jl vs act i st k) from rfl,j4,i4,i3,mW,Int.add_assoc]
theorem A4 (h:DV vs fs Z D T s x)(hact:∀o,o<=s->act.getD o false=false->∀e,e<ln vs o->D o e=0)(hi:i<=s)(hx:x<i)(hsl:Slp vs fs st.1.length st.2)(hlen:st.2.length=vs.length)(hfs:∃r,fs=(giM vs act i st).1++r):
  Slp vs fs (giM vs act i st).1.length (giM vs act i st).2/\(giM vs act i st).2.length=vs.length/\iX (ctr vs Z D (giM vs act i st).2) i=iX (ctr vs Z D st.2) (i+1):=by
 unfold giM at hfs ⊢
 rw[iX]
 by_cases e:st.2.getD i 0=-1
 ·rw[if_pos e]
  refine⟨hsl,hlen,?_⟩
  unfold ctr
  rw[if_pos e,Int.add_zero]
 ·rw[if_neg e] at hfs ⊢
  obtain⟨i1,i2,i3,i4⟩:=yI h hact hi hsl hlen e _ (Nat.le_refl _) hfs
  refine⟨i1,i2,?_⟩
  rw[show cnt (vs.getD i Vl.zero).op=cnt (vd vs i).op from rfl,i4,adj h hi hx]
  congr 1
  unfold ctr
  rw[if_neg e]
theorem qz {vs fs:List Vl}{Z D:Nat->Nat->Int}{T:Nat->Int}{s x:Nat}(h:DV vs fs Z D T s x):∀m,x+m<=s->∀i,i<=x+m->(iS vs x m).getD i false=false->∀k,k<ln vs i->D i k=0
 |0,hm,i,hi,ha,k,hk=>by
  by_cases e:i=x
  ·subst e
   rw[iS,jG (by simpa using h.x)] at ha
   cases ha
  ·rw[h.d i (by omega) k hk]
   unfold lC
   rw[if_pos (by omega)]
 |m+1,hm,i,hi,ha,k,hk=>by
  have IH:=qz h m (by omega)
  have hs:=h.s
  rw[iS] at ha
  by_cases e:i=x+1+m
  ·subst e
   rw[jG (by rw[my];omega)] at ha
   have hop:∀j,j<cnt (vd vs (x+1+m)).op->∀k,k<ln vs (fld (vd vs (x+1+m)) j).toNat->D (fld (vd vs (x+1+m)) j).toNat k=0:=λj hj=>by
    have hl:=yG h (by omega) hj
    refine IH _ (by omega) ?_
    unfold lW at ha
    have:=List.any_eq_false.1 ha j (List.mem_range.2 hj)
    simpa using this
   have z0:ld (λq=>if q=k then 1 else 0) (D (x+1+m)) (ln vs (x+1+m))=0:=by
    rw[<-adj h (by omega) (by omega)]
    have:∀c,c<=cnt (vd vs (x+1+m)).op->mW vs Z D (x+1+m) (λq=>if q=k then 1 else 0) c=0:=λc=>by
     induction c with
     |zero=>intro _;rfl
     |succ c ih=>intro hc;rw[mW,ih (by omega),mD (hop c (by omega))];rfl
    exact this _ (Nat.le_refl _)
   unfold ld at z0
   rw[iQ (z':=λq=>if q=k then D (x+1+m) k else 0) _ λq _=>by
    show(if q=k then 1 else 0)*_=_
    by_cases c:q=k
    ·rw[if_pos c,if_pos c,c,Int.one_mul]
    ·rw[if_neg c,if_neg c,Int.zero_mul],nS,if_pos hk] at z0
   exact z0
  ·rw[jh (λc=>e c.symm)] at ha
   exact IH i (by omega) ha k hk
theorem vX {vs fs:List Vl}{Z D:Nat->Nat->Int}{T:Nat->Int}{s x:Nat}(h:DV vs fs Z D T s x)(hls:ln vs s=1){act:List Bool}(hact:∀o,o<=s->act.getD o false=false->∀e,e<ln vs o->D o e=0)(h1:zf 4607182418800017408=1):
  ∀j,j<=s-x->(∃r,fs=(gdn vs act s j).1++r)->Slp vs fs (gdn vs act s j).1.length (gdn vs act s j).2/\(gdn vs act s j).2.length=vs.length/\iX (ctr vs Z D (gdn vs act s j).2) (s+1-j)=D s 0
 |0,_,⟨r,hr⟩=>by
  have hs:=h.s
  rw[gdn] at hr ⊢
  unfold ky at hr ⊢
  have hl:=pl (us:=vs) (q:=0) hr (Nat.zero_lt_succ _)
  rw[Nat.add_zero] at hl
  have hll:ln fs vs.length=1:=by show(vd fs _).len.toNat=_;rw[hl.is];rfl
  have hN:((vs.length:Nat):Int).toNat=vs.length:=rfl
  refine⟨λi hi=>?_,by simp,?_⟩
  ·by_cases e:s=i
   ·subst e
    rw[jG (by simpa using hs)]
    exact .inr ⟨by omega,by rw[hN,List.length_append];exact Nat.lt_succ_self _,by rw[hN,hll,hls]⟩
   ·rw[jh e,oN hi]
    exact .inl rfl
  ·rw[Nat.sub_zero,iQ (z':=λi=>if i=s then D s 0 else 0) _ λi hi=>?_,nS,if_pos (by omega)]
   unfold ctr
   by_cases e:i=s
   ·subst e
    rw[jG (by simpa using hs),if_neg (by omega),if_pos rfl,hls,hN]
    unfold ld
    rw[show ∀f:Nat->Int,iX f 1=f 0 from λf=>by simp[iX],h.z _ hl.lt 0 (by omega) (by rw[hl.is];simp:(vd fs _).op≠0)]
    unfold jm
    rw[hl.is]
    show zf 4607182418800017408*_=_
    rw[h1,Int.one_mul]
   ·rw[jh (λc=>e c.symm),oN (by omega),if_pos rfl,if_neg e]
 |j+1,hj,hfs=>by
  obtain⟨i1,i2,i3⟩:=vX h hls hact h1 j (by omega) (rJ hfs (vW vs act s j 1))
  obtain⟨j1,j2,j3⟩:=A4 h hact (i:=s-j) (by omega) (by omega) i1 i2 hfs
  refine⟨j1,j2,?_⟩
  rw[show s+1-(j+1)=s-j by omega,show gdn vs act s (j+1)=giM vs act (s-j) (gdn vs act s j) from rfl,j3,show s-j+1=s+1-j by omega]
  exact i3
theorem Dp (h:DV vs fs Z D T s x)(hls:ln vs s=1)(hfs:fs=(grM vs s x).1)(h0:zf 0=0)(h1:zf 4607182418800017408=1):
  0<=(grM vs s x).2/\(grM vs s x).2.toNat<fs.length/\ln fs (grM vs s x).2.toNat=ln vs x/\ld (Z (grM vs s x).2.toNat) T (ln vs x)=if x<=s then D s 0 else 0:=by
 have hs:=h.s
 have hx:=h.x
 have zero:∀us:List Vl,fs=us++[ik 1 (vs.getD x Vl.zero).len 0 0 0]->us.length<fs.length/\ln fs us.length=ln vs x/\ld (Z us.length) T (ln vs x)=0:=λus e=>by
  have hl:Lay fs (us.length+0) (ik 1 (vs.getD x Vl.zero).len 0 0 0):=pl (us:=us) (ns:=[ik 1 (vs.getD x Vl.zero).len 0 0 0]) (r:=[]) (by rw[e];simp) (Nat.zero_lt_succ _)
  rw[Nat.add_zero] at hl
  have el:ln fs us.length=ln vs x:=by show(vd fs us.length).len.toNat=_;rw[hl.is]
  refine⟨hl.lt,el,?_⟩
  unfold ld
  rw[iQ (z':=λ_=>0) _ λk hk=>by
   rw[h.z us.length hl.lt k (by omega) (by rw[hl.is];simp:(vd fs us.length).op≠0)]
   unfold jm
   rw[hl.is]
   show zf 0*_=0
   rw[h0,Int.zero_mul],mB]
 unfold grM at hfs ⊢
 by_cases ha:(iS vs x (s-x)).getD s false=true
 ·rw[if_pos ha] at hfs ⊢
  have hxs:x<=s:=Nat.le_of_not_lt λc=>by
   rw[show s-x=0 by omega,iS,jh (by omega),List.getD_eq_getElem?_getD,List.getElem?_replicate,if_pos hs] at ha
   cases ha
  have hact:∀o,o<=s->(iS vs x (s-x)).getD o false=false->∀e,e<ln vs o->D o e=0:=λo ho=>qz h (s-x) (by omega) o (by omega)
  rw[if_pos hxs]
  have ef:=oO vs (iS vs x (s-x)) s x (s-x) (Nat.le_refl _)
  rw[show km vs (iS vs x (s-x)) x (ky vs s) (lY (s-x))=gdn vs (iS vs x (s-x)) s (s-x) from ef] at hfs ⊢
  unfold qp at hfs ⊢
  have hext:∃r,fs=(gdn vs (iS vs x (s-x)) s (s-x)).1++r:=by
   rw[hfs]
   split
   ·exact⟨_,rfl⟩
   ·exact⟨[],by simp⟩
  obtain⟨g1,g2,g3⟩:=vX h hls hact h1 (s-x) (Nat.le_refl _) hext
  rw[show s+1-(s-x)=x+1 by omega,iX,iQ (z':=λ_=>0) _ λi hi=>by
   unfold ctr
   split
   ·rfl
   ·exact mD λk hk=>by rw[h.d i (by omega) k hk];unfold lC;rw[if_pos hi],mB,Int.zero_add] at g3
  unfold ctr at g3
  by_cases e:(gdn vs (iS vs x (s-x)) s (s-x)).2.getD x 0=-1
  ·rw[if_pos e] at hfs g3 ⊢
   obtain⟨z1,z2,z3⟩:=zero _ hfs
   exact⟨by simp only;omega,z1,z2,by rw[<-g3];exact z3⟩
  ·rw[if_neg e] at hfs g3 ⊢
   rcases g1 x hx with c|⟨c1,c2,c3⟩
   ·exact absurd c e
   refine⟨c1,by rw[hfs];exact c2,c3,?_⟩
   rw[<-g3]
   refine og (λ_ _=>rfl) λk hk=>?_
   rw[h.d x hxs k hk]
   unfold lC
   rw[if_neg (by omega),if_pos rfl]
 ·rw[if_neg ha] at hfs ⊢
  obtain⟨z1,z2,z3⟩:=zero _ hfs
  refine⟨by simp only;omega,z1,z2,z3.trans ?_⟩
  by_cases hxs:x<=s
  ·rw[if_pos hxs]
   exact(qz h (s-x) (by omega) s (by omega) (by simpa using ha) 0 (by omega)).symm
  ·rw[if_neg hxs]
end
section
open Go.RowKit Flt
attribute [local go_sem] ic ib ia
theorem un (w:World)(_lo g1 g2 g3 n1 c1 n2 c2 n3 c3:Nat)(s x:Nat)(ins:List Int)(vs:List Vl)(outs:List Int)(f:GN w g1 g2 g3 n2 ins vs outs)(e1:ins.length=n1)(e3:outs.length=n3)(l1:n1<=1000000)(l2:n2<=2000)(l3:n3<=1000000)(hok:(List.range n2).all (okV ins vs)=true)(hc5:ig vs<=50000)(hs:s<n2)(hx:x<n2)(ha:(iS vs x (s-x)).getD s false=false):
  Calls Tryz.prog 26 #[ip (some ⟨g1,0,none⟩) n1 c1 (some ⟨g2,0,none⟩) n2 c2 (some ⟨g3,0,none⟩) n3 c3,.int .i64 (s:Int),.int .i64 (x:Int)] w λe w'=>Do w w' n1 n3 ins outs (grM vs s x) e/\Kept 0 0 w w':=by
 have HG:Hid (grM vs s x=(vs++[ik 1 (vs.getD x Vl.zero).len 0 0 0],((vs.length:Nat):Int))):=by
  show _=_
  unfold grM
  rw[if_neg (by rw[ha];simp)]
 have hlen:∀j,j<n2->1<=(vs.getD j Vl.zero).len/\(vs.getD j Vl.zero).len<=1000:=λj hj=>ja (List.all_eq_true.1 hok j (List.mem_range.2 hj))
 have hops:∀j,j<n2->∀k,k<cnt (vs.getD j Vl.zero).op->0<=fld (vs.getD j Vl.zero) k/\fld (vs.getD j Vl.zero) k<j:=λj hj=>mN (List.all_eq_true.1 hok j (List.mem_range.2 hj))
 have hop:∀j,j<n2->0<=(vs.getD j Vl.zero).op/\(vs.getD j Vl.zero).op<=13:=λj hj=>sZ (List.all_eq_true.1 hok j (List.mem_range.2 hj))
 have kn:Kept 0 0 w ((w.alloc (iv (some ⟨g1,0,none⟩) n1 c1 (some ⟨g2,0,none⟩) n2 c2 (some ⟨g3,0,none⟩) n3 c3)).alloc iw):=(hU 0 0 w _).trans (hU 0 0 _ _)
 have HB:Hid _:=(iO w (.slice (some ⟨g1,0,none⟩) n1 c1) (.slice (some ⟨g2,0,none⟩) n2 c2) (.slice (some ⟨g3,0,none⟩) n3 c3)).keep (hU 0 0 _ iw)
 have HFZ:Hid (∀o,((w.alloc (iv (some ⟨g1,0,none⟩) n1 c1 (some ⟨g2,0,none⟩) n2 c2 (some ⟨g3,0,none⟩) n3 c3)).alloc iw).frozen? ⟨w.heap.size,o,none⟩=false):=λo=>by simp
 have hN:=i9 (w.alloc (iv (some ⟨g1,0,none⟩) n1 c1 (some ⟨g2,0,none⟩) n2 c2 (some ⟨g3,0,none⟩) n3 c3))
 rw[show(w.alloc (iv (some ⟨g1,0,none⟩) n1 c1 (some ⟨g2,0,none⟩) n2 c2 (some ⟨g3,0,none⟩) n3 c3)).heap.size=w.heap.size+1 by simp] at hN
 have HR:Hid _:=hN
 have HXA:Hid _:=um _ (some ⟨g1,0,none⟩) (some ⟨g3,0,none⟩) g2 n1 c1 n2 c2 n3 c3 s x vs (GN.keepJ f kn).v l2 hs hx hop hops
 have HXC:Hid (∀W,Kept 0 0 ((w.alloc (iv (some ⟨g1,0,none⟩) n1 c1 (some ⟨g2,0,none⟩) n2 c2 (some ⟨g3,0,none⟩) n3 c3)).alloc iw) W->_):=λW (k:Kept 0 0 ((w.alloc (iv (some ⟨g1,0,none⟩) n1 c1 (some ⟨g2,0,none⟩) n2 c2 (some ⟨g3,0,none⟩) n3 c3)).alloc iw) W)=>uP W _lo g1 g2 g3 n1 c1 n2 c2 n3 c3 ins vs outs (GN.keepJ f (kn.trans k)) e1 e3 l1 (by omega) l3
 have HVX:Hid (∀W,Kept 0 0 ((w.alloc (iv (some ⟨g1,0,none⟩) n1 c1 (some ⟨g2,0,none⟩) n2 c2 (some ⟨g3,0,none⟩) n3 c3)).alloc iw) W->W.cell? ⟨g2,x*6+1,none⟩=some (.int .i64 (vs.getD x Vl.zero).len)):=λW k=>((GN.keepJ f (kn.trans k)).v.at_ x hx).c1
 have HLN:Hid (vs.length=n2):=f.v.len
 have HLE:Hid _:=hlen
 have HOS:Hid _:=hops
 have HOP:Hid _:=hop
 have HOK:Hid _:=hok
 have HZ:Hid (SzU 2000 50000 vs):=⟨by have:=f.v.len;omega,kM vs (λj hj=>by have:=hlen j (by have:=f.v.len;omega);omega),hc5⟩
 have hx1:(0:Int)<=(x:Int):=by omega
 have hx2:(x:Int)<(n2:Int):=by omega
 have hs1:(0:Int)<=(s:Int):=by omega
 have hs2:(s:Int)<(n2:Int):=by omega
 have hwz:((w.alloc (iv (some ⟨g1,0,none⟩) n1 c1 (some ⟨g2,0,none⟩) n2 c2 (some ⟨g3,0,none⟩) n3 c3)).alloc iw).heap.size=w.heap.size+1+1:=by simp
 clear hN kn f hok hc5 hlen hops hop
 go_enter Tryz.func26,Tryz.ntmps26
 go_wp2_with fail
 refine Calls.mono HXA.out ?_
 rintro e w1 ⟨A,rfl,hA,hAl,k1⟩
 rw[hwz] at hAl
 obtain⟨_,p0,p1,p2⟩:=HB.out.keep k1
 have hlx:=HVX.out w1 k1
 generalize hlnx:(vs.getD x Vl.zero).len=lx at hlx
 have HLX:Hid ((vs.getD x Vl.zero).len=lx):=hlnx
 clear hlnx HVX HXA
 have HA:Hid (BR w1 A (iS vs x (s-x))):=hA
 have HK1:Hid _:=k1
 clear hA k1
 go_wp2_with fail
 clear hlx
 refine Calls.mono (HXC.out w1 HK1.out) ?_
 rintro e w2 ⟨b1,d1,a2,d2,b3,d3,rfl,o1,o2,o3,⟨q1,q2,q3⟩,k2⟩
 have hw1:w.heap.size+1+1<=w1.heap.size:=by have:=HK1.out.size;omega
 have HL:Hid (LK w (iM w2 w.heap.size (.slice b1 n1 d1) (.slice a2 n2 d2) (.slice b3 n3 d3)) b1 n1 d1 b3 n3 d3 ins outs vs w1.heap.size (Value.slice a2 n2 d2).ownBlock a2 d2):=LK.start HLN.out HB.out HFZ.out HR.out (HK1.out.trans k2) hw1 k2.size o1 o2 o3 q1 q2 q3
 have HBA:Hid (BR (iM w2 w.heap.size (.slice b1 n1 d1) (.slice a2 n2 d2) (.slice b3 n3 d3)) A (iS vs x (s-x))):=BR.keep (BR.keep HA.out k2 (.inr (.inr (Nat.le_refl _)))) (iD w2 w.heap.size _ _ _) (.inr (.inl (by omega)))
 have HFA:Hid (Farb w b1 n1 d1 b3 n3 d3 (Value.slice a2 n2 d2).ownBlock A):=⟨hAl,λc=>by have:=(ii o2 c).1;have:=(BR.lt HA.out);omega,λc=>by have:=(ii o1 c).1;have:=(BR.lt HA.out);omega,λc=>by have:=(ii o3 c).1;have:=(BR.lt HA.out);omega⟩
 clear p0 p1 p2
 obtain⟨_,p0,p1,p2⟩:=HB.out.keep (HK1.out.trans k2)
 have f0:=((HK1.out.trans k2).frozen (p:=⟨w.heap.size,0,none⟩) HB.out.sz (by omega)).trans (HFZ.out 0)
 have f1:=((HK1.out.trans k2).frozen (p:=⟨w.heap.size,1,none⟩) HB.out.sz (by omega)).trans (HFZ.out 1)
 have f2:=((HK1.out.trans k2).frozen (p:=⟨w.heap.size,2,none⟩) HB.out.sz (by omega)).trans (HFZ.out 2)
 have yA:=BR.cell HBA.out s (by rw[my,HLN.out];exact hs)
 rw[ha] at yA
 unfold iM at yA HL HBA
 clear o1 o2 o3 q1 q2 q3 k2 HXC HB HFZ HR HA HK1 hwz
 rw[HLX.out] at HG
 have hnb:vs.length<=1000000:=by have:=HLN.out;omega
 by_cases hsx:s<x
 all_goals
  (first|(have tx:(s:Int)<(x:Int):=by omega)|(have tx:¬((s:Int)<(x:Int)):=by omega))
  go_upto_region 5 with fail
  clear p0 p1 p2 f0 f1 f2 yA
  generalize ((w2.setCell ⟨w.heap.size,0,none⟩ (.slice b1 n1 d1)).setCell ⟨w.heap.size,1,none⟩ (.slice a2 n2 d2)).setCell ⟨w.heap.size,2,none⟩ (.slice b3 n3 d3)=wP at HL HBA ⊢
  rw[<-HLN.out] at HL ⊢
  have s0:=HL.out.g.c0
  have s1:=HL.out.g.c1
  have s2:=HL.out.g.c2
  go_cut [] (λwx=>∃g' cap',Hid (LK w wx b1 n1 d1 b3 n3 d3 ins outs (vs++[ik 1 lx 0 0 0]) w1.heap.size (some g') (some ⟨g',0,none⟩) cap'))
  case first=>
   go_region_with (first
    |(go_at_call 50;refine Calls.mono (LK.call HL.out ((ie wP).trans k1) (ik 1 lx 0 0 0) hnb) ?_;rintro e w2 ⟨g',cap',rfl,⟨_,r0⟩,⟨_,r1⟩,⟨_,r2⟩,rf,hS2⟩;have rf0:=rf 0;have rf1:=rf 1;have rf2:=rf 2;have HS2:Hid _:=hS2.out.1;clear rf hS2)
    |(go_at_call 51;refine Calls.mono (pJ _ _) ?_;rintro e w1 ⟨rfl,k1⟩;have p0:=(LK.keep HL.out ((ie wP).trans k1)).g.c0;have p1:=(LK.keep HL.out ((ie wP).trans k1)).g.c1;have p2:=(LK.keep HL.out ((ie wP).trans k1)).g.c2))
   all_goals (go_wp2_with fail;go_meet;exact⟨g',cap',HS2⟩)
  case rest=>
   obtain⟨g',cap',hS2⟩:=hcut
   have hl1:(vs++[ik 1 lx 0 0 0]).length=vs.length+1:=by simp
   generalize hu:vs++[ik 1 lx 0 0 0]=us2 at hS2 HG hl1
   clear s0 s1 s2 hu HL
   have s0:=hS2.out.g.c0
   have s1:=hS2.out.g.c1
   have s2:=hS2.out.g.c2
   obtain⟨_,t0,t1,t2,x0,x1,x2⟩:=hS2.out.b
   have HLast:Hid (∀W:World,_):=λW=>kY W b1 (some ⟨g',0,none⟩) b3 n1 d1 us2.length cap' n3 d3 (show us2.length<=1000000 by have:=HLN.out;have:=hl1;omega)
   rw[show(us2.length:Int)-1=((vs.length:Nat):Int) by omega] at HLast
   clear hl1
   go_wp2_with fail
   go_region_with (first
    |(go_at_call 52;refine Calls.mono (HLast.out _) ?_;rintro e w3 ⟨rfl,k3⟩;clear t0 t1 t2 x0 x1 x2;have q0:=(hS2.out.keep ((ie wc).trans k3)).g.c0;have q1:=(hS2.out.keep ((ie wc).trans k3)).g.c1;have q2:=(hS2.out.keep ((ie wc).trans k3)).g.c2;obtain⟨_,t0,t1,t2,x0,x1,x2⟩:=(hS2.out.keep ((ie wc).trans k3)).b))
   all_goals
    have R1:Hid _:=hS2.out.fin ((ie wc).trans k3)
    obtain⟨y0,y1,y2⟩:=iy w3 (w.heap.size+1) _ _ _ t0 t1 t2 (.slice b1 n1 d1) (.slice (some ⟨g',0,none⟩) us2.length cap') (.slice b3 n3 d3)
    go_wp2_with fail
    refine bodyPost_ret (v:=.tuple #[ip b1 n1 d1 (some ⟨g',0,none⟩) us2.length cap' b3 n3 d3,.int .i64 ((vs.length:Nat):Int)]) (by simp[results,Tryz.results26,go_sem,y0,y1,y2]) rfl ⟨?_,R1.out.2⟩
    rw[HG.out]
    exact⟨b1,d1,b3,d3,some ⟨g',0,none⟩,cap',rfl,R1.out.1.1,R1.out.1.2.1,R1.out.1.2.2⟩
noncomputable abbrev FK (n:Nat):Code:=(Tryz.f26.body.bind (n6 n)).getD .skip
theorem Dr {w W:World}{Mb A n1 e1 n3 e3 base cap gv S1 o:Nat}{b1 b3:Option Addr}{ins outs mv:List Int}{act:List Bool}{us:List Vl}{R:Option Nat}{p q ol:Int}{K:Act->World->Prop}{b a c d f h i j k n r s t u v x y z B C D E F G H I J L M N O P Q S T U V X Y Z aa ab ad ae af ag ah ai aj ak al am an ao ap aq ar au av aw ax ay az aA aB aC aD aE aF aG aH aI aJ aK aL aM aN aO aP aQ aR aS aT aU aV aW aX aY aZ a0 a1 a2 a3 a4 a5 a6 a7 a8 a9 ba bb bc bd be bf bg bh bi bj bk bl bm bn bo bp bq br bs bt bu bv bw bx bz bA bB bC bD bE b2 b4 b5 b6 b7 b8 b9 ca cb cc cd ce cf cg bF bG bH bI bJ bK bL bM bN bO bP bQ bR bS bT bU bV bW bX bY bZ b0:Value}(HM:Hid (LG w W Mb A b1 n1 e1 b3 n3 e3 ins outs us mv act base R (some ⟨gv,0,none⟩) cap))(hbd:us.length<=900000)(ho:o<us.length)(hS:o<S1)(hm:mv.length=S1)(hol:(us.getD o Vl.zero).len=ol)(hq:mv.getD o 0=q)
  (hk:∀(W':World) (g' cap':Nat) (u133 u134 u135 u136 u137 u138 u139 u140 u141 u142 u143 u144 u145 u146:Value),Hid (LG w W' Mb A b1 n1 e1 b3 n3 e3 ins outs (us++[ik 2 ol q p 0]) mv act base (some g') (some ⟨g',0,none⟩) cap')->K ⟨#[b,a,c,.pointer (some ⟨w.heap.size,0,none⟩),d,f,h,i,j,k,.slice (some ⟨Mb,0,none⟩) S1 S1,n,r,s,.int .i64 (o:Int),t,.int .i64 p,u,v,x,y,z,B,C,D,E,F,G,H,I,J,L,M,N,O,P,Q,S,T,U,V,X,Y,Z,aa,ab,ad,ae,af,ag,ah,ai,aj,ak,al,am,an,ao,ap,aq,ar,au,av,aw,ax,ay,az,aA,aB,aC,aD,aE,aF,aG,aH,aI,aJ,aK,aL,aM,aN,aO,aP,aQ,aR,aS,aT,aU,aV,aW,aX,aY,aZ,a0,a1,a2,a3,a4,a5,a6,a7,a8,a9,ba,bb,bc,bd,be,bf,bg,bh,bi,bj,bk,bl,bm,bn,bo,bp,bq,br,bs,bt,bu,bv,bw,bx,bz,bA,bB,bC,bD,bE,u133,u134,u135,u136,u137,u138,u139,u140,u141,u142,u143,u144,u145,u146,bF,bG,bH,bI,bJ,bK,bL,bM,bN,bO,bP,bQ,bR,bS,bT,bU,bV,bW,bX,bY,bZ,b0],[]⟩ W'):
  Code.wp Tryz.prog (FK 27) (Exit.then K λ_ _ _=>False) ⟨#[b,a,c,.pointer (some ⟨w.heap.size,0,none⟩),d,f,h,i,j,k,.slice (some ⟨Mb,0,none⟩) S1 S1,n,r,s,.int .i64 (o:Int),t,.int .i64 p,u,v,x,y,z,B,C,D,E,F,G,H,I,J,L,M,N,O,P,Q,S,T,U,V,X,Y,Z,aa,ab,ad,ae,af,ag,ah,ai,aj,ak,al,am,an,ao,ap,aq,ar,au,av,aw,ax,ay,az,aA,aB,aC,aD,aE,aF,aG,aH,aI,aJ,aK,aL,aM,aN,aO,aP,aQ,aR,aS,aT,aU,aV,aW,aX,aY,aZ,a0,a1,a2,a3,a4,a5,a6,a7,a8,a9,ba,bb,bc,bd,be,bf,bg,bh,bi,bj,bk,bl,bm,bn,bo,bp,bq,br,bs,bt,bu,bv,bw,bx,bz,bA,bB,bC,bD,bE,b2,b4,b5,b6,b7,b8,b9,ca,cb,cc,cd,ce,cf,cg,bF,bG,bH,bI,bJ,bK,bL,bM,bN,bO,bP,bQ,bR,bS,bT,bU,bV,bW,bX,bY,bZ,b0],[]⟩ W:=by
 have HK:Hid _:=hk
 clear hk
 have s0:=HM.out.l.g.c0
 have s1:=HM.out.l.g.c1
 have s2:=HM.out.l.g.c2
 obtain⟨gx,ex,_,_,hA⟩:=HM.out.l.read (by omega)
 cases ex
 have hL1:=(hA o ho).c1
 rw[hol] at hL1
 have hS1:=IR.cell HM.out.m o (by omega)
 rw[hq] at hS1
 have o0:(0:Int)<=(o:Int):=by omega
 have o1:(o:Int)<(us.length:Int):=by omega
 have o2:(o:Int)<(S1:Int):=by omega
 clear hol hq hA hm ho hS
 conv=>arg 2;whnf
 go_region_with (first
  |(go_at_call 50;refine Calls.mono (LK.call HM.out.l ((ie W).trans k1) (ik 2 ol q p 0) (by omega)) ?_;rintro e w2 ⟨g',cap',rfl,⟨u0,r0⟩,⟨u1,r1⟩,⟨u2,r2⟩,rf,hM2⟩;have rf0:=rf 0;have rf1:=rf 1;have rf2:=rf 2;have HM2:Hid _:=HM.out.stq hM2.out.1 hM2.out.2;clear rf hM2)
  |(go_at_call 55;refine Calls.mono (lz _ _ _ _ _ _) ?_;rintro e w1 ⟨rfl,k1⟩;have p0:=(LG.keep HM.out ((ie W).trans k1)).l.g.c0;have p1:=(LG.keep HM.out ((ie W).trans k1)).l.g.c1;have p2:=(LG.keep HM.out ((ie W).trans k1)).l.g.c2))
 all_goals exact HK.out _ _ _ _ _ _ _ _ _ _ _ _ _ _ _ _ _ HM2
end
section
open Go.RowKit Flt
variable {vs:List Vl} {act:List Bool} {st:List Vl×List Int}
def VOK (u:Vl):Prop:=1<=u.len/\u.len<=1000/\u.k<18446744073709551616
def AllV (us:List Vl):Prop:=∀u∈us,VOK u
theorem AllV.app {a b:List Vl}(h:AllV a)(k:AllV b):AllV (a++b):=λu hu=>(List.mem_append.1 hu).elim (h u) (k u)
theorem jc:AllV []:=λu hu=>by cases hu
theorem AllV.cons {u:Vl}{us:List Vl}(h:VOK u)(k:AllV us):AllV (u::us):=λx hx=>by
 cases hx with
 |head=>exact h
 |tail _ hx=>exact k x hx
theorem jb {o l p q r:Int}(h:1<=l/\l<=1000):VOK (ik o l p q r):=⟨h.1,h.2,by show(0:Nat)<_;decide⟩
theorem kG {p:Prop}[Decidable p]{a b:List Vl×Int}(ha:p->AllV a.1)(hb:¬p->AllV b.1):AllV (if p then a else b).1:=by
 split
 ·exact ha (by assumption)
 ·exact hb (by assumption)
theorem Ds (i:Int)(v:Vl)(la:Int)(k:Nat)(d:Int)(N:Nat)(hv:1<=v.len/\v.len<=1000)(hla:(v.op=9\/v.op=11)->1<=la/\la<=1000):AllV (iW i v la k d N).1:=by
 unfold iW
 refine kG (λ_=>jc) (λ_=>kG (λ_=>kG (λ_=>jc) (λ_=>(AllV.cons (jb hv) jc))) (λ_=>kG (λ_=>kG (λ_=>AllV.cons (jb hv) jc) (λ_=>AllV.cons (jb hv) jc)) (λ_=>kG (λ_=>kG (λ_=>AllV.cons (jb hv) jc) (λ_=>AllV.cons (jb hv) (AllV.cons (jb hv) (AllV.cons (jb hv) jc)))) (λ_=>kG (λ_=>AllV.cons (jb hv) jc) (λ_=>kG (λ_=>AllV.cons (jb hv) jc) (λ_=>kG (λ_=>kG (λ_=>AllV.cons (jb hv) (AllV.cons (jb hv) jc)) (λ_=>AllV.cons (jb hv) (AllV.cons (jb hv) jc))) (λ_=>kG (λ_=>kG (λ_=>AllV.cons (jb hv) (AllV.cons (jb hv) (AllV.cons (jb hv) jc))) (λ_=>AllV.cons (jb hv) (AllV.cons (jb hv) (AllV.cons (jb hv) jc)))) (λ_=>kG (λh9=>AllV.cons (jb (hla (.inl h9))) jc) (λ_=>kG (λ_=>AllV.cons (jb (by omega)) jc) (λ_=>kG (λh11=>AllV.cons (jb (hla (.inr h11))) jc) (λ_=>AllV.cons (jb (by omega)) jc)))))))))))
structure GVs (vs:List Vl):Prop where
 a:AllV vs
 o:∀i,i<vs.length->∀k,k<cnt (vs.getD i Vl.zero).op->0<=fld (vs.getD i Vl.zero) k/\fld (vs.getD i Vl.zero) k<i
 l:∀i,i<vs.length->((vs.getD i Vl.zero).op=9\/(vs.getD i Vl.zero).op=11)->1<=laM vs i/\laM vs i<=1000
theorem GVs.at_ (h:GVs vs){j:Nat}(hj:j<vs.length):VOK (vs.getD j Vl.zero):=by
 rw[List.getD_eq_getElem?_getD,List.getElem?_eq_getElem hj]
 exact h.a _ (List.getElem_mem _)
theorem Dt (h:GVs vs){i k:Nat}(hi:i<vs.length)(hk:k<cnt (vs.getD i Vl.zero).op)(ha:AllV st.1):AllV (gkM vs act i k st).1:=by
 have hv:=h.at_ hi
 have ho:=h.o i hi k hk
 unfold gkM
 split
 ·have hp:=Ds (i:Int) (vs.getD i Vl.zero) (laM vs i) k (st.2.getD i 0) st.1.length ⟨hv.1,hv.2.1⟩ (h.l i hi)
  unfold jF
  split
  ·exact ha.app hp
  ·have hov:=h.at_ (j:=(fld (vs.getD i Vl.zero) k).toNat) (by omega)
   exact(ha.app hp).app (AllV.cons (jb ⟨hov.1,hov.2.1⟩) jc)
 ·exact ha
theorem vY {vs:List Vl}(h:GVs vs){act:List Bool}{i:Nat}(hi:i<vs.length){st:List Vl×List Int}(ha:AllV st.1):∀k,k<=cnt (vs.getD i Vl.zero).op->AllV (jl vs act i st k).1
 |0,_=>ha
 |k+1,hk=>Dt h hi hk (vY h hi ha k (by omega))
theorem Du (h:GVs vs){i:Nat}(hi:i<vs.length)(ha:AllV st.1):AllV (giM vs act i st).1:=by
 unfold giM
 split
 ·exact ha
 ·exact vY h hi ha _ (Nat.le_refl _)
theorem vo {vs:List Vl}(h:GVs vs){act:List Bool}{s:Nat}(hs:s<vs.length):∀j,AllV (gdn vs act s j).1
 |0=>h.a.app (AllV.cons ⟨by show(1:Int)<=1;omega,by show(1:Int)<=1000;omega,by show(4607182418800017408:Nat)<18446744073709551616;decide⟩ jc)
 |j+1=>Du h (by omega) (vo h hs j)
theorem yJ (h:GVs vs){s x:Nat}(hs:s<vs.length)(hx:x<vs.length):AllV (grM vs s x).1:=by
 have hv:=h.at_ hx
 unfold grM
 split
 ·unfold lY
  rw[oO _ _ _ _ _ (Nat.le_refl _)]
  unfold qp
  split
  ·exact(vo h hs _).app (AllV.cons (jb ⟨hv.1,hv.2.1⟩) jc)
  ·exact vo h hs _
 ·exact h.a.app (AllV.cons (jb ⟨hv.1,hv.2.1⟩) jc)
theorem yK {ins:List Int}(hok:(List.range vs.length).all (okV ins vs)=true)(hk:∀v∈vs,v.k<18446744073709551616):GVs vs where
 a:=λu hu=>by
  obtain⟨j,hj,e⟩:=List.getElem_of_mem hu
  have hl:=ja (List.all_eq_true.1 hok j (List.mem_range.2 hj))
  rw[List.getD_eq_getElem?_getD,List.getElem?_eq_getElem hj] at hl
  simp only[Option.getD_some] at hl
  rw[e] at hl
  exact⟨hl.1,hl.2,hk u hu⟩
 o:=λi hi=>mN (List.all_eq_true.1 hok i (List.mem_range.2 hi))
 l:=λi hi ho=>by
  obtain⟨_,_,_,_,h1,h2⟩:=yl hok i hi ho
  exact⟨h1,h2⟩
end
end Go.Proofs.YtnlffngpnoodkaaGreat
