import Derived.Test.YtdpbpcnldpkljaaGreatP04
namespace Go.Proofs.Z
open Tryz
set_option maxRecDepth 1000000
set_option maxHeartbeats 0
open Go.RowKit Flt
attribute [local go_sem] eD eB eA
variable {xs:List Int} {p:Int->Bool} {k:Nat}
def okV (ins:List Int)(vs:List Vl)(i:Nat):Bool:=
 (lenB (vs.getD i Vl.zero).len&&f9 (vs.getD i Vl.zero))&&
  (if (vs.getD i Vl.zero).op=0 then fC (vs.getD i Vl.zero).a ins.length&&(vs.getD i Vl.zero).len==ins.getD (vs.getD i Vl.zero).a.toNat 0
   else (eN (vs.getD i Vl.zero)).all (fC · i)&&eQ (vs.getD i Vl.zero).op (vs.getD i Vl.zero).len (vs.getD i Vl.zero).c ((eN (vs.getD i Vl.zero)).map λo=>(vs.getD o.toNat Vl.zero).len))
abbrev eP (a1:Option Addr)(n1 c1:Nat)(a2:Option Addr)(n2 c2:Nat)(a3:Option Addr)(n3 c3:Nat):Obj:=.cells #[.slice a1 n1 c1,.slice a2 n2 c2,.slice a3 n3 c3] 26
theorem pe (w:World)(a1 a3:Option Addr)(n1 c1 n2 c2 n3 c3 g2 o2 i:Nat)(v:Vl)(hg:g2<w.heap.size)(hi:i<n2)(hat:At w g2 (o2+i*6) v)(hl:lenB v.len=false):
  Calls prog 60 #[eR a1 n1 c1 (some ⟨g2,o2,none⟩) n2 c2 a3 n3 c3,.int .i64 (i:Int)] w λe w'=>e=.returned (.bool false)/\Kept 0 0 w w':=by
 have hL:Hid (∀w,Calls prog 59 #[.int .i64 v.len] w λe w'=>e=.returned (.bool false)/\w'=w):=λw=>by
  have:=gO v.len w
  rw[hl] at this
  exact this
 clear hl
 have hK:=ez 0 0 w (eP a1 n1 c1 (some ⟨g2,o2,none⟩) n2 c2 a3 n3 c3)
 obtain⟨e0,e1,e2,e3,e4,e5⟩:=hat.keep hg hK yaa
 clear hat hK
 go_enter func60,ntmps60
 go_wp2_with (go_at_call 59;refine(hL.out _).mono ?_;rintro e w2 ⟨rfl,rfl⟩)
 go_ret
 exact⟨rfl,(ez 0 0 w _).trans (ez 0 0 _ _)⟩
theorem ph (w:World)(a1 a3:Option Addr)(n1 c1 n2 c2 n3 c3 g2 o2 i:Nat)(v:Vl)(hg:g2<w.heap.size)(hi:i<n2)(hat:At w g2 (o2+i*6) v)(hl:lenB v.len=true)(hs:f9 v=false):
  Calls prog 60 #[eR a1 n1 c1 (some ⟨g2,o2,none⟩) n2 c2 a3 n3 c3,.int .i64 (i:Int)] w λe w'=>e=.returned (.bool false)/\Kept 0 0 w w':=by
 have hL:Hid (∀w,Calls prog 59 #[.int .i64 v.len] w λe w'=>e=.returned (.bool true)/\w'=w):=λw=>by
  have:=gO v.len w
  rw[hl] at this
  exact this
 have hS:Hid (∀w,Calls prog 86 #[v.agg] w λe w'=>e=.returned (.bool false)/\Kept 0 0 w w'):=λw=>by
  have:=lw w v
  rw[hs] at this
  exact this
 clear hl hs
 have hK:=ez 0 0 w (eP a1 n1 c1 (some ⟨g2,o2,none⟩) n2 c2 a3 n3 c3)
 obtain⟨e0,e1,e2,e3,e4,e5⟩:=hat.keep hg hK yaa
 clear hat hK
 go_enter func60,ntmps60
 go_wp2_with (first|(go_at_call 59;refine(hL.out _).mono ?_;rintro e w2 ⟨rfl,rfl⟩)|(go_at_call 86;refine(hS.out _).mono ?_;rintro e w2 ⟨rfl,hk2⟩))
 go_ret
 exact⟨rfl,((ez 0 0 w _).trans (ez 0 0 _ _)).trans hk2⟩
structure GB (W:World)(p:Nat)(b0 b1 b2:Value)(v:Vl):Prop where
 sz:p+1<W.heap.size
 q0:W.cell? ⟨p,0,none⟩=some b0
 q1:W.cell? ⟨p,1,none⟩=some b1
 q2:W.cell? ⟨p,2,none⟩=some b2
 vt:At W (p+1) 0 v
theorem GB.keep {W W':World}{p:Nat}{b0 b1 b2:Value}{v:Vl}(t:GB W p b0 b1 b2 v)(k:Kept 0 0 W W'):GB W' p b0 b1 b2 v:=by
 have e:∀g o,g<=p+1->W'.cell? ⟨g,o,none⟩=W.cell? ⟨g,o,none⟩:=λg o h=>k.cell (p:=⟨g,o,none⟩) (Nat.lt_of_le_of_lt h t.sz) xaa
 exact⟨yaj t.sz k.size,by rw[e _ _ xaa];exact t.q0,by rw[e _ _ xaa];exact t.q1,by rw[e _ _ xaa];exact t.q2,t.vt.keep t.sz k yaa⟩
theorem mQ (w:World)(b0 b1 b2:Value)(v:Vl):GB ((w.alloc (.cells #[b0,b1,b2] 26)).alloc (fX v.op v.len v.a v.b v.c v.k)) w.heap.size b0 b1 b2 v:=by
 have h1:(w.alloc (.cells #[b0,b1,b2] 26)).heap.size=w.heap.size+1:=by simp
 refine⟨?_,?_,?_,?_,?_,?_,?_,?_,?_,?_⟩
 all_goals first|(go_simp;done)|(simp;done)
theorem pi (w:World)(a1 a3:Option Addr)(n1 c1 n2 c2 n3 c3 g2 o2 i:Nat)(len A B C:Int)(K:Nat)(ins:List Int)(f:IS w 0 w.heap.size a1 n1 ins)(hg:g2<w.heap.size)(hi:i<n2)(hat:At w g2 (o2+i*6) ⟨0,len,A,B,C,K⟩)(hl:lenB len=true)(hs:f9 ⟨0,len,A,B,C,K⟩=true):
  Calls prog 60 #[eR a1 n1 c1 (some ⟨g2,o2,none⟩) n2 c2 a3 n3 c3,.int .i64 (i:Int)] w λe w'=>e=.returned (.bool (fC A n1&&len==ins.getD A.toNat 0))/\Kept 0 0 w w':=by
 have hL:Hid (∀w,Calls prog 59 #[.int .i64 len] w λe w'=>e=.returned (.bool true)/\w'=w):=λw=>by
  have:=gO len w
  rw[hl] at this
  exact this
 have hS:Hid (∀w,Calls prog 86 #[ib 0 len A B C K] w λe w'=>e=.returned (.bool true)/\Kept 0 0 w w'):=λw=>by
  have:=lw w ⟨0,len,A,B,C,K⟩
  rw[hs] at this
  exact this
 clear hl hs
 have hK:=ez 0 0 w (eP a1 n1 c1 (some ⟨g2,o2,none⟩) n2 c2 a3 n3 c3)
 obtain⟨e0,e1,e2,e3,e4,e5⟩:=hat.keep hg hK yaa
 have hK2:Hid _:=hK.trans (ez 0 0 _ (fX 0 len A B C K))
 have hB:Hid _:=mQ w (.slice a1 n1 c1) (.slice (some ⟨g2,o2,none⟩) n2 c2) (.slice a3 n3 c3) ⟨0,len,A,B,C,K⟩
 clear hat hK
 simp only at e0 e1 e2 e3 e4 e5
 by_cases hA:0<=A/\A<n1
 ·obtain⟨j,rfl⟩:∃j:Nat,A=j:=⟨A.toNat,by omega⟩
  rw[show fC (j:Int) n1=true from decide_eq_true hA,Bool.true_and,Int.toNat_natCast]
  have hj:j<n1:=xaa
  have hI:Hid (∀w,Calls prog 61 #[.int .i64 (j:Int),.int .i64 (n1:Int)] w λe w'=>e=.returned (.bool true)/\w'=w):=λw=>by
   have:=gI (j:Int) n1 w
   rw[show fC (j:Int) n1=true from decide_eq_true hA] at this
   exact this
  clear hA
  rcases f.at_ with h0|⟨g1,o1,rfl,b1,b2,b3,b4⟩
  ·omega
  have c0:=b4 j hj
  clear b4 f b1 b2
  generalize ins.getD j 0=y at c0 ⊢
  go_enter func60,ntmps60
  go_wp2_with (first|(go_at_call 59;refine(hL.out _).mono ?_;rintro e w2 ⟨rfl,rfl⟩)|fail)
  refine(hS.out _).mono ?_
  rintro e w3 ⟨rfl,hk3⟩
  have hK3:=hK2.out.trans hk3
  have hB3:=hB.out.keep hk3
  have q0:=hB3.q0
  have d0:=hB3.vt.c0
  have d1:=hB3.vt.c1
  have d2:=hB3.vt.c2
  have c1:=jN hK3 b3 c0
  have HK3:Hid _:=hK3
  simp only at d0 d1 d2
  clear hK3 hB3 hk3 c0 e0 e1 e2 e3 e4 e5
  have j0:(0:Int)<=(j:Int):=xaa
  have j1:(j:Int)<(n1:Int):=xaa
  exact xgp
 ·rw[show fC A n1=false from yax hA,Bool.false_and]
  have hI:Hid (∀w,Calls prog 61 #[.int .i64 A,.int .i64 (n1:Int)] w λe w'=>e=.returned (.bool false)/\w'=w):=λw=>by
   have:=gI A n1 w
   rw[show fC A n1=false from yax hA] at this
   exact this
  clear hA
  go_enter func60,ntmps60
  go_wp2_with (first|(go_at_call 59;refine(hL.out _).mono ?_;rintro e w2 ⟨rfl,rfl⟩)|fail)
  refine(hS.out _).mono ?_
  rintro e w3 ⟨rfl,hk3⟩
  have hK3:=hK2.out.trans hk3
  have hB3:=hB.out.keep hk3
  have q0:=hB3.q0
  have d0:=hB3.vt.c0
  have d1:=hB3.vt.c1
  have d2:=hB3.vt.c2
  have HK3:Hid _:=hK3
  simp only at d0 d1 d2
  clear hK3 hB3 hk3 e0 e1 e2 e3 e4 e5
  exact xgp
theorem kx (hk:k<xs.length)(h:(xs.take k).all p=true)(t:p (xs.getD k 0)=true):(xs.take (k+1)).all p=true:=by
 rw[yat hk,List.all_append,h]
 exact xjd
theorem lz (hk:k<xs.length)(t:p (xs.getD k 0)=false):xs.all p=false:=by
 rw[yah,yal hk] at t
 rw[List.all_eq_false]
 exact⟨xs[k],List.getElem_mem _,by simpa using t⟩
theorem xo {f:Int->Int}(hk:k<xs.length):(xs.map f).getD k 0=f (xs.getD k 0):=by
 simp[List.getD_eq_getElem?_getD,List.getElem?_eq_getElem hk]
theorem rB (w:World)(a1 a3:Option Addr)(n1 c1 n2 c2 n3 c3 g2 o2 i:Nat)(v:Vl)(vs:List Vl)(hg:g2<w.heap.size)(hi:i<n2)
  (hall:∀k,k<n2->At w g2 (o2+k*6) (vs.getD k Vl.zero)) (hv:vs.getD i Vl.zero=v) (hl:lenB v.len=true) (hs:f9 v=true) (h0:v.op≠0):
  Calls prog 60 #[eR a1 n1 c1 (some ⟨g2,o2,none⟩) n2 c2 a3 n3 c3,.int .i64 (i:Int)] w λe w'=>e=.returned (.bool ((eN v).all (fC · i)&&eQ v.op v.len v.c ((eN v).map λo=>(vs.getD o.toNat Vl.zero).len)))/\Kept 0 0 w w':=by
 have hL:Hid (∀w,Calls prog 59 #[.int .i64 v.len] w λe w'=>e=.returned (.bool true)/\w'=w):=λw=>by
  have:=gO v.len w
  rw[hl] at this
  exact this
 have hS:Hid (∀w,Calls prog 86 #[v.agg] w λe w'=>e=.returned (.bool true)/\Kept 0 0 w w'):=λw=>by
  have:=lw w v
  rw[hs] at this
  exact this
 clear hl hs
 have hK:=ez 0 0 w (eP a1 n1 c1 (some ⟨g2,o2,none⟩) n2 c2 a3 n3 c3)
 have hat:=hall i hi
 rw[hv] at hat
 have HA:Hid (∀k,k<n2->At w g2 (o2+k*6) (vs.getD k Vl.zero)):=hall
 clear hall hv
 obtain⟨e0,e1,e2,e3,e4,e5⟩:=hat.keep hg hK yaa
 have hK2:Hid _:=hK.trans (ez 0 0 _ (fX v.op v.len v.a v.b v.c v.k))
 have hB:Hid _:=mQ w (.slice a1 n1 c1) (.slice (some ⟨g2,o2,none⟩) n2 c2) (.slice a3 n3 c3) v
 clear hat hK
 have t0:(v.op==0)=false:=yam h0
 clear h0
 go_enter func60,ntmps60
 go_wp2_with (first|(go_at_call 59;refine(hL.out _).mono ?_;rintro e w2 ⟨rfl,rfl⟩)|fail)
 refine(hS.out _).mono ?_
 rintro e w3 ⟨rfl,hk3⟩
 have hK3:=hK2.out.trans hk3
 have hB3:=hB.out.keep hk3
 obtain⟨d0,d1,d2,d3,d4,d5⟩:=hB3.vt
 have HK3:Hid _:=hK3
 have HB3:Hid _:=hB3
 clear hK3 hB3 hk3 hB hK2 e0 e1 e2 e3 e4 e5
 simp only[Nat.zero_add] at d1 d2 d3 d4 d5
 go_wp2_with fail
 refine(pd _ v).mono ?_
 rintro e w4 ⟨G,rfl,fo,hG,hk4⟩
 have HK4:Hid _:=HK3.out.trans hk4
 have HB4:Hid _:=HB3.out.keep hk4
 have HG:Hid (G+1=w4.heap.size):=hG
 clear HK3 HB3 hk4 d0 d1 d2 d3 d4 d5 hG
 have hq:cnt v.op<=3:=gX _
 have hm:=o6 (cnt v.op) w4 xaa
 have hIR:=IR.made w4 (cnt v.op)
 have hKm:=ez 0 0 w4 (.cells (madeCells #[.int .i64 0] (cnt v.op)) 3)
 have HOL:Hid ((eN v).length=cnt v.op):=iP v
 have HF:Hid (∀W a cap xs,IS W 0 W.heap.size a (cnt v.op) xs->Calls prog 88 #[v.agg,.slice a (cnt v.op) cap] W λe w'=>e=.returned (.bool (eQ v.op v.len v.c xs))/\Kept 0 0 W w'):=λW a cap xs f=>xl W v.op v.len v.a v.b v.c v.k 0 W.heap.size a (cnt v.op) cap xs f rfl
 generalize cnt v.op=q at hq hm hIR hKm HOL HF fo
 generalize hos:eN v=os at HOL fo
 have HOS:Hid (eN v=os):=hos
 clear hos
 generalize hw5:w4.alloc (.cells (madeCells #[.int .i64 0] q) 3)=w5 at hm hIR hKm
 clear hw5
 go_wp2_with fail
 clear hm
 have hLq:Hid ((os.map λo:Int=>(vs.getD o.toNat Vl.zero).len).length=q):=by show(os.map _).length=q;rw[List.length_map];exact HOL.out
 have HMP:Hid (∀k,k<q->(os.map λo:Int=>(vs.getD o.toNat Vl.zero).len).getD k 0=(vs.getD (os.getD k 0).toNat Vl.zero).len):=λk hk=>xo (by rw[HOL.out];exact hk)
 have fo':Hid _:=fo
 go_loopw [51] (λix W=>∃k:Nat,k<=q/\ix=.int .i64 k/\Hid ((os.take k).all (fC · i)=true)/\IR W w4.heap.size ((os.map λo:Int=>(vs.getD o.toNat Vl.zero).len).take k++(List.replicate q 0).drop k)/\Kept 0 0 w4 W) (λix _=>q-(intOf ix).toNat)
 case atStart=>exact⟨0,Nat.zero_le _,rfl,rfl,by simpa using hIR,hKm⟩
 case round=>
  obtain⟨k,hk,rfl,hA,hF,hKW⟩:=hrel
  clear hIR hKm
  by_cases hlt:k<q
  ·rcases fo.at_ with z0|⟨ga,oa,ea,z1,z2,z3,z4⟩
   ·omega
   cases ea
   have c1:=jN hKW z3 (z4 k hlt)
   rw[Nat.zero_add] at c1
   clear z4 z1 z2 z3 fo
   by_cases hx:fC (os.getD k 0) i=true
   ·have hx':=of_decide_eq_true hx
    obtain⟨j,hj⟩:∃j:Nat,os.getD k 0=j:=⟨(os.getD k 0).toNat,by omega⟩
    have hA':Hid _:=kx (p:=(fC · i)) (by rw[HOL.out];exact hlt) hA.out hx
    have hML:=HMP.out k hlt
    rw[hj] at c1 hx hx' hML
    rw[Int.toNat_natCast] at hML
    have hji:j<i:=xaa
    have hI:Hid (∀w,Calls prog 61 #[.int .i64 (j:Int),.int .i64 (i:Int)] w λe w'=>e=.returned (.bool true)/\w'=w):=λw=>by
     have:=gI (j:Int) i w
     rw[hx] at this
     exact this
    have u:=(jN (HK4.out.trans hKW) hg (HA.out j xaa).c1)
    have q1:=(HB4.out.keep hKW).q1
    have s1:=hF.free k
    have hll:((os.map λo:Int=>(vs.getD o.toNat Vl.zero).len).take k++(List.replicate q 0).drop k).length=q:=by rw[yak,List.length_take,List.length_drop,hLq.out,List.length_replicate];omega
    have s2:=hF.cell k xaa
    rw[<-hML] at u
    have R1:Hid _:=hF.set k ((os.map λo:Int=>(vs.getD o.toNat Vl.zero).len).getD k 0)
    have R2:Hid _:=hKW.new (eL (lo:=w4.heap.size) (hi:=w4.heap.size+1) wr ⟨w4.heap.size,k,none⟩ (.int .i64 ((os.map λo:Int=>(vs.getD o.toNat Vl.zero).len).getD k 0)) yac) yad
    have R3:Hid _:=qm (os.map λo:Int=>(vs.getD o.toNat Vl.zero).len) (List.replicate q 0) k (by rw[hLq.out];exact hlt) (by rw[hLq.out];simp)
    generalize (os.map λo:Int=>(vs.getD o.toNat Vl.zero).len).getD k 0=y at u R1 R2 R3
    clear hML hF hKW hll hx hx' hj hA
    go_wp2_with ((go_at_call 61;refine(hI.out _).mono ?_;rintro e w2 ⟨rfl,rfl⟩))
    go_roundw
    case rel=>
     refine⟨k+1,by omega,by go_num,hA',?_,R2.out⟩
     have:=R1.out
     rw[R3.out] at this
     exact this
    case measure=>simp[intOf];omega
   ·have hx':fC (os.getD k 0) i=false:=by simpa using hx
    have R:Hid (os.all (fC · i)=false):=lz (by rw[HOL.out];exact hlt) hx'
    have hI:Hid (∀w,Calls prog 61 #[.int .i64 (os.getD k 0),.int .i64 (i:Int)] w λe w'=>e=.returned (.bool false)/\w'=w):=λw=>by
     have:=gI (os.getD k 0) i w
     rw[hx'] at this
     exact this
    have R2:Hid _:=HK4.out.trans hKW
    clear hx hx' hKW hF hA
    go_wp2_with ((go_at_call 61;refine(hI.out _).mono ?_;rintro e w2 ⟨rfl,rfl⟩))
    go_ret
    exact⟨by rw[HOS.out,R.out];rfl,R2.out⟩
  ·obtain rfl:k=q:=xaa
   have R:Hid (os.all (fC · i)=true):=by
    have:=hA.out
    rw[yao (by rw[HOL.out];omega)] at this
    exact this
   have hF2:IR wr w4.heap.size (os.map λo:Int=>(vs.getD o.toNat Vl.zero).len):=by
    rw[yao (by rw[hLq.out];omega),List.drop_of_length_le xac,List.append_nil] at hF
    exact hF
   have hI:=hF2.is
   rw[hLq.out] at hI
   have hC:Hid _:=λcap=>HF.out wr _ cap _ hI
   have R2:Hid _:=HK4.out.trans hKW
   obtain⟨d0,d1,d2,d3,d4,d5⟩:=(HB4.out.keep hKW).vt
   simp only[Nat.zero_add] at d1 d2 d3 d4 d5
   clear hI hF2 hF hA hKW fo
   go_wp2_with fail
   refine(hC.out _).mono ?_
   rintro e w9 ⟨rfl,hk9⟩
   have R3:Hid _:=R2.out.trans hk9
   clear hk9 d0 d1 d2 d3 d4 d5
   go_wp2
   go_ret
   exact⟨by rw[HOS.out,R.out];rfl,R3.out⟩
theorem yY (w:World)(a1 a2 a3:Option Addr)(n1 c1 n2 c2 n3 c3 i:Nat)(ins:List Int)(vs:List Vl)(outs:List Int)(f:GS w a1 n1 a2 n2 a3 n3 ins vs outs)(hi:i<n2):
  Calls prog 60 #[eR a1 n1 c1 a2 n2 c2 a3 n3 c3,.int .i64 (i:Int)] w λe w'=>e=.returned (.bool (okV ins vs i))/\Kept 0 0 w w':=by
 rcases f.v.at_ with h0|⟨g2,o2,rfl,b1,b2,b3,b4⟩
 ·omega
 have hat:=b4 i hi
 unfold okV
 generalize hv:vs.getD i Vl.zero=v at hat
 cases hl:lenB v.len
 ·exact pe w a1 a3 n1 c1 n2 c2 n3 c3 g2 o2 i v b3 hi hat hl
 cases hs:f9 v
 ·exact ph w a1 a3 n1 c1 n2 c2 n3 c3 g2 o2 i v b3 hi hat hl hs
 by_cases h0:v.op=0
 ·rw[if_pos h0,f.i.len]
  obtain⟨op,len,A,B,C,K⟩:=v
  simp only at h0
  subst h0
  exact pi w a1 a3 n1 c1 n2 c2 n3 c3 g2 o2 i len A B C K ins f.i b3 hi hat hl hs
 ·rw[if_neg h0]
  exact rB w a1 a3 n1 c1 n2 c2 n3 c3 g2 o2 i v vs b3 hi b4 hv hl hs h0
