import Derived.Test.YtdpbpcnldpkljaaGreatP27
import Derived.Test.YtdpbpcnldpkljaaGreatP30
import Derived.Test.YtdpbpcnldpkljaaGreatP23
namespace Go.Proofs.Z
open Tryz
set_option maxRecDepth 1000000
set_option maxHeartbeats 0
section
open Go.RowKit Flt
attribute [local go_sem] eD eB eA
variable {outs:List Int} {k:Nat}
theorem jW (tq outs:List Int):(jZ tq outs).length=outs.length:=by simp[jZ]
theorem AJ {tq:List Int}(hk:k<outs.length):((jZ tq outs).take k++outs.drop k).set k (tq.getD (outs.getD k 0).toNat 0)=(jZ tq outs).take (k+1)++outs.drop (k+1):=by
 have e:=qm (jZ tq outs) outs k (by rw[jW];exact hk) (by rw[jW])
 have:(jZ tq outs).getD k 0=tq.getD (outs.getD k 0).toNat 0:=by
  unfold jZ
  rw[yah,List.getElem?_map,yal hk,yah (l:=outs),yal hk]
  rfl
 rw[this] at e
 exact e
theorem C2 {ys:List Int}(hk:k<outs.length)(hy:ys.length=outs.length):(ys.take k++outs.drop k).getD k 0=outs.getD k 0:=by
 rw[yah,yar yaf,yah,List.getElem?_drop]
 congr 2
 simp
 omega
theorem ki (F:List Bool)(os:List Int)(hk:k<os.length):fJ F (os.take (k+1))=(fJ F (os.take k)).set (os.getD k 0).toNat true:=by
 unfold fJ
 rw[yat hk,List.foldl_append,yah,yal hk]
 rfl
theorem ub {vs:List Vl}{b:Bool}(hb:(ndI vs outs k).getD (vs.length-1-k) false=b):ndI vs outs (k+1)=if b=true then fJ (ndI vs outs k) (eN (vs.getD (vs.length-1-k) Vl.zero)) else ndI vs outs k:=by
 rw[ndI,hb]
end
section
open Go.RowKit Flt
attribute [local go_sem] eD eB eA
attribute [local go_sem ↓] Go.wp_at_zero Go.wp_at_succ
theorem IR.isAt {w:World}{g n:Nat}{xs:List Int}(h:IR w g xs)(hl:xs.length=n):IS w g (g+1) (some ⟨g,0,none⟩) n xs:=
 ⟨hl,.inr ⟨g,0,rfl,yad,yae,h.lt,λk hk=>by rw[Nat.zero_add];exact h.cell k xaa⟩⟩
theorem Chg.refl (S:Nat->Prop)(w:World):Chg S w w:=(Kept.refl 0 0 w).chg
theorem RB.keepC {W W':World}{S:Nat->Prop}{p:Nat}{b0 b1 b2:Value}(t:RB W p b0 b1 b2)(k:Chg S W W')(hd:¬S p):RB W' p b0 b1 b2:=by
 have e:∀o,W'.cell? ⟨p,o,none⟩=W.cell? ⟨p,o,none⟩:=λo=>k.cell (p:=⟨p,o,none⟩) t.sz hd
 have f:∀o,W'.frozen? ⟨p,o,none⟩=W.frozen? ⟨p,o,none⟩:=λo=>k.frozen (p:=⟨p,o,none⟩) t.sz hd
 exact⟨yaj t.sz k.size,by rw[e];exact t.q0,by rw[e];exact t.q1,by rw[e];exact t.q2,by rw[f];exact t.f0,by rw[f];exact t.f1,by rw[f];exact t.f2⟩
end
section
open Go.RowKit Flt
attribute [local go_sem] eD eB eA
theorem AK (op:BinOp)(x y:Nat):cop op x y<18446744073709551616:=by
 unfold cop
 cases h:floatBits op .f64 x y with
 |none=>decide
 |some r=>
  have:=floatBits_wf h
  simpa[Lit.wf] using this
end
section
open Go.RowKit Flt
theorem oO {vs:List Vl}(h:Kb vs)(F:List Bool):∀i,Kb (fL F vs i).1
 |0=>by intro v hv;simp[fL] at hv
 |i+1=>by
  rw[fL]
  split
  ·exact(oO h F i).app (h.at_ i)
  ·exact oO h F i
end
section
open Go.RowKit Flt
attribute [local go_sem] eD eB eA
variable {F:List Bool} {W' w4:World} {vs:List Vl} {T i n2 base gk cap:Nat} {S:List Vl×List Int}
structure DI (W w4:World)(T n2 base gk cap:Nat)(S:List Vl×List Int):Prop where
 tq:IR W T S.2
 tl:S.2.length=n2
 own:W.ownsRow base 35 6 (.slice (some ⟨gk,0,none⟩) S.1.length cap) S.1.length (fp S.1)
 ch:Chg (λb=>b=T\/base<=b) w4 W
 bz:base<=W.heap.size
theorem lM (F:List Bool)(vs:List Vl):∀i,(fL F vs i).2.length=vs.length/\(fL F vs i).1.length<=i
 |0=>⟨by simp[fL],yad⟩
 |i+1=>by
  obtain⟨h1,h2⟩:=lM F vs i
  rw[fL]
  split
  ·exact⟨by simp[h1],by simp;omega⟩
  ·exact⟨h1,by omega⟩
theorem DI.stay {W:World}(f:DI W w4 T n2 base gk cap S)(k:Kept 0 0 W W'):DI W' w4 T n2 base gk cap S:=
 ⟨f.tq.keep k yaa,f.tl,eO f.own k,Chg.trans f.ch k.chg,yan f.bz k.size⟩
theorem DI.next {W W7 w9:World}{g9 cap9:Nat}{x:Int}{nv:Vl}{o:Obj}(f:DI W w4 T n2 base gk cap S)(k:Kept 0 0 W W')(k7:Kept 0 0 (W'.setCell ⟨T,i,none⟩ (.int .i64 x)) W7)(hT:T<base)
  (hown:w9.ownsRow base 35 6 (.slice (some ⟨g9,0,none⟩) (S.1.length+1) cap9) (S.1.length+1) (fp S.1++nv.cells)) (hg:(W7.alloc o).grownBy w9 (some gk)) (hgk:base<=gk):DI w9 w4 T n2 base g9 cap9 (S.1++[nv],S.2.set i x):=by
 have kq:=eL (lo:=T) (hi:=T+1) W' ⟨T,i,none⟩ (.int .i64 x) yac
 have ka:=ez 0 0 W7 o
 have t1:=(((f.tq.keep k yaa).set i x).keep k7 yaa).keep ka yaa
 have cg:Chg (λb=>b=gk) (W7.alloc o) w9:=⟨hg.os,hg.tape,hg.output,hg.size,λq hq hn=>hg.block q hq (λc=>hn (Option.some.inj c))⟩
 refine⟨t1.keepC cg xaa,by simp[f.tl],?_,?_,?_⟩
 ·rw[yak,List.length_singleton,jf,kz];exact hown
 ·refine Chg.trans f.ch (Chg.trans k.chg (Chg.trans (kq.chg1 (.inl rfl)) (Chg.trans k7.chg (Chg.trans ka.chg (cg.mono λb _ c=>.inr xaa)))))
 ·have h1:=f.bz
  have h2:=k.size
  have h3:=kq.size
  have h4:=k7.size
  have h5:=ka.size
  have h6:=cg.size
  omega
theorem vq (w:World)(b0 b1 b2:Value):RB (w.alloc (.cells #[b0,b1,b2] 26)) w.heap.size b0 b1 b2:=by
 exact xje
theorem ww (h:F.getD i false=true):fL F vs (i+1)=((fL F vs i).1++[rnm ((fL F vs i).2.set i (fL F vs i).1.length) (vs.getD i Vl.zero)],(fL F vs i).2.set i (fL F vs i).1.length):=by
 rw[fL,if_pos h]
theorem pP (h:F.getD i false=false):fL F vs (i+1)=fL F vs i:=by
 rw[fL,if_neg (by rw[h];simp)]
theorem Gl (w:World)(a1 a2 a3:Option Addr)(n1 c1 n2 c2 g3 n3 c3 lo hi:Nat)(a:Option Addr)(n cap:Nat)(tq outs:List Int)(f:IBk w g3 n3 outs)(t:IS w lo hi a n tq)(hd:hi<=g3\/g3<lo)(h:∀o∈outs,0<=o/\o<n)(hn:n3<=1000000)(h3:0<n3->a3=some ⟨g3,0,none⟩):
  Calls prog 91 #[eR a1 n1 c1 a2 n2 c2 a3 n3 c3,.slice a n cap] w λe w'=>e=.returned (.tuple #[])/\IBk w' g3 n3 (jZ tq outs)/\Kept g3 (g3+1) w w':=by
 have k0:=ez 0 0 w (eP a1 n1 c1 a2 n2 c2 a3 n3 c3)
 have HB:Hid _:=fE w (.slice a1 n1 c1) (.slice a2 n2 c2) (.slice a3 n3 c3)
 have HF:Hid _:=f.keep k0 yaa
 have HT:Hid _:=t.keep k0 yaa
 have HL:Hid (outs.length=n3):=f.len
 have HG:Hid (g3<w.heap.size):=f.lt
 have HO:Hid _:=h
 have HK0:Hid (Kept g3 (g3+1) w (w.alloc (eP a1 n1 c1 a2 n2 c2 a3 n3 c3))):=ez _ _ _ _
 have H3:Hid _:=h3
 clear f t h k0 h3
 obtain⟨_,q0,q1,q2⟩:=HB.out
 go_enter func91,ntmps91
 go_wp2_with fail
 clear q0 q1 q2
 generalize w.alloc (eP a1 n1 c1 a2 n2 c2 a3 n3 c3)=w1 at HB HF HT HK0 ⊢
 go_loopw [9] (λi W=>∃k:Nat,k<=n3/\i=.int .i64 k/\Hid (IBk W g3 n3 ((jZ tq outs).take k++outs.drop k))/\Hid (Kept g3 (g3+1) w1 W)) (λi _=>n3-(intOf i).toNat)
 case atStart=>exact⟨0,Nat.zero_le _,rfl,by simpa using HF,Kept.refl _ _ _⟩
 case round=>
  obtain⟨k,hk,rfl,hF,hK⟩:=hrel
  clear HF
  by_cases hlt:k<n3
  ·obtain rfl:=H3.out xaa
   have ho:=HO.out (outs.getD k 0) (iR (by rw[HL.out];exact hlt))
   obtain⟨g,off,m,rfl,em,hm,hg,ct⟩:=(IS.keep HT.out hK.out xaa).at_idx ho.1 ho.2
   have c1':=hF.out.at_ k hlt
   rw[C2 (by rw[HL.out];exact hlt) (jW _ _),em] at c1'
   have fz:=hF.out.free k
   obtain⟨_,q0,q1,q2⟩:=G0.keepT HB.out hK.out (by have:=HG.out;omega)
   have R1:Hid _:=IBk.put hF.out k hlt (tq.getD (outs.getD k 0).toNat 0)
   rw[AJ (by rw[HL.out];exact hlt)] at R1
   have R2:Hid _:=Kept.trans hK.out (eL (lo:=g3) (hi:=g3+1) wr ⟨g3,k,none⟩ (.int .i64 (tq.getD (outs.getD k 0).toNat 0)) yac)
   generalize tq.getD (outs.getD k 0).toNat 0=x at ct R1 R2
   clear hF hK ho em
   go_wp2_with fail
   go_region
   all_goals
    go_wp2
    go_roundw
    case rel=>exact⟨k+1,by omega,by go_num,IBk.keep R1.out (eC _) yaa,Kept.drew R2.out⟩
    case measure=>simp[intOf];omega
  ·obtain rfl:k=n3:=xaa
   have R1:Hid (IBk wr g3 k (jZ tq outs)):=by
    have:=hF.out
    rw[yao (by rw[jW,HL.out];omega),List.drop_of_length_le (by rw[HL.out];omega),List.append_nil] at this
    exact this
   have R2:Hid _:=Kept.trans HK0.out hK.out
   clear hF hK
   go_wp2
   go_end0
   exact⟨rfl,R1.out,R2.out⟩
theorem C4 (w:World)(a1 a2 a3:Option Addr)(n1 c1 g2 n2 c2 g3 n3 c3:Nat)(vs:List Vl)(outs:List Int)(hv:VA w g2 n2 vs)(ho:IBk w g3 n3 outs)(hops:∀i,i<n2->∀o∈eN (vs.getD i Vl.zero),0<=o/\o<i)(houts:∀o∈outs,0<=o/\o<n2)(hn:n2<=2000)(hn3:n3<=1000000)(h2:0<n2->a2=some ⟨g2,0,none⟩)(h3:0<n3->a3=some ⟨g3,0,none⟩):
  Calls prog 89 #[eR a1 n1 c1 a2 n2 c2 a3 n3 c3] w λe w'=>∃G,e=.returned (.slice (some ⟨G,0,none⟩) n2 n2)/\w.heap.size<=G/\BR w' G (ndI vs outs n2)/\Kept 0 0 w w':=by
 have k0:=ez 0 0 w (eP a1 n1 c1 a2 n2 c2 a3 n3 c3)
 have hB:=fE w (.slice a1 n1 c1) (.slice a2 n2 c2) (.slice a3 n3 c3)
 have hz:(w.alloc (eP a1 n1 c1 a2 n2 c2 a3 n3 c3)).heap.size=w.heap.size+1:=by simp
 have hm:=rH n2 (w.alloc (eP a1 n1 c1 a2 n2 c2 a3 n3 c3)) xaa
 have hBR:=BR.made (w.alloc (eP a1 n1 c1 a2 n2 c2 a3 n3 c3)) n2
 have k1:=ez 0 0 (w.alloc (eP a1 n1 c1 a2 n2 c2 a3 n3 c3)) (.cells (madeCells #[.bool false] n2) 4)
 rw[hz] at hm hBR
 have HB:Hid _:=hB.keep k1
 have HV:Hid _:=hv.keep (k0.trans k1) yaa
 have HO:Hid _:=ho.keep (k0.trans k1) yaa
 have HK:Hid _:=k0.trans k1
 have HBR:Hid _:=hBR
 have HL:Hid (vs.length=n2/\outs.length=n3):=⟨hv.len,ho.len⟩
 have HG:Hid (g2<w.heap.size/\g3<w.heap.size):=⟨hv.lt,ho.lt⟩
 have HP:Hid ((∀i,i<n2->∀o∈eN (vs.getD i Vl.zero),0<=o/\o<i)/\(∀o∈outs,0<=o/\o<n2)):=⟨hops,houts⟩
 have H2:Hid _:=h2
 have H3:Hid _:=h3
 clear h2 h3 hv ho hops houts k0 k1 hBR hz
 obtain⟨_,q0,q1,q2⟩:=hB
 obtain⟨_,p0,p1,p2⟩:=HB.out
 go_enter func89,ntmps89
 go_wp2_with fail
 clear q0 q1 q2 p0 p1 p2 hm
 generalize (w.alloc (eP a1 n1 c1 a2 n2 c2 a3 n3 c3)).alloc (.cells (madeCells #[.bool false] n2) 4)=w1 at HB HV HO HK HBR ⊢
 go_loopw [16] (λi W=>∃k:Nat,k<=n3/\i=.int .i64 k/\Hid (BR W (w.heap.size+1) (fJ (List.replicate n2 false) (outs.take k)))/\Hid (Kept (w.heap.size+1) (w.heap.size+2) w1 W)) (λi _=>n3-(intOf i).toNat)
 case atStart=>exact⟨0,Nat.zero_le _,rfl,HBR,Kept.refl _ _ _⟩
 case round=>
  obtain⟨k,hk,rfl,hF,hK⟩:=hrel
  clear HBR
  by_cases hlt:k<n3
  ·obtain rfl:=H3.out xaa
   have hob:=HP.out.2 (outs.getD k 0) (iR (by rw[HL.out.2];exact hlt))
   obtain⟨m,em,hm⟩:∃m:Nat,outs.getD k 0=m/\m<n2:=⟨(outs.getD k 0).toNat,by omega,by omega⟩
   have c1':=(IBk.keep HO.out hK.out (by have:=HG.out;omega)).at_ k hlt
   rw[em] at c1'
   have hl:(fJ (List.replicate n2 false) (outs.take k)).length=n2:=by rw[iw];simp
   have c2':=hF.out.cell m xaa
   have fz:=hF.out.free m
   have R1:Hid _:=BR.set hF.out m true
   rw[show m=(outs.getD k 0).toNat by omega,<-ki _ _ (by rw[HL.out.2];exact hlt),<-show m=(outs.getD k 0).toNat by omega] at R1
   have R2:Hid _:=Kept.trans hK.out (eL (lo:=w.heap.size+1) (hi:=w.heap.size+2) wr ⟨w.heap.size+1,m,none⟩ (.bool true) yac)
   generalize (fJ (List.replicate n2 false) (outs.take k)).getD m false=z at c2'
   clear hF hK hob em hl
   exact xhx
  ·obtain rfl:k=n3:=xaa
   have HF0:Hid (BR wr (w.heap.size+1) (ndI vs outs 0)):=by
    have:=hF.out
    rw[yao (by rw[HL.out.2];omega)] at this
    show BR _ _ _
    rw[ndI,HL.out.1]
    exact this
   have HK0:Hid _:=hK.out
   clear hF hK
   obtain⟨_,p0,p1,p2⟩:=G0.keepT HB.out HK0.out xaa
   go_wp2_with fail
   clear p0 p1 p2
   go_loopw [6] (λx W=>∃j:Nat,j<=n2/\x=.int .i64 ((n2:Int)-1-j)/\Hid (BR W (w.heap.size+1) (ndI vs outs j))/\Hid (Kept (w.heap.size+1) (w.heap.size+2) w1 W)) (λx _=>(intOf x+1).toNat)
   case atStart=>exact⟨0,Nat.zero_le _,by go_num,HF0,HK0⟩
   case round=>
    obtain⟨j,hj,rfl,hF,hK⟩:=hrel
    clear HF0 HK0
    by_cases hlt:j<n2
    ·obtain rfl:=H2.out xaa
     have hjl:n2-1-j<n2:=xaa
     obtain⟨i,hi⟩:∃i:Nat,i=n2-1-j:=⟨_,rfl⟩
     have hi2:(n2:Int)-1-j=i:=xaa
     have hi3:i<n2:=xaa
     rw[hi2]
     have HI0:Hid (i=n2-1-j):=hi
     have HI1:Hid ((n2:Int)-1-j=i):=hi2
     clear hi hi2 hjl
     have hln:=ja vs outs j
     have cb:=hF.out.cell i (by rw[hln,HL.out.1];exact hi3)
     cases hb:(ndI vs outs j).getD i false
     ·have R1:Hid (BR wr (w.heap.size+1) (ndI vs outs (j+1))):=by
       show BR _ _ _
       rw[ub (b:=false) (by rw[HL.out.1,<-HI0.out];exact hb),if_neg xac]
       exact hF.out
      have R2:Hid _:=hK.out
      rw[hb] at cb
      clear hF hK hln hb
      exact xgn
     ·rw[hb] at cb
      have hat:=(VA.keep HV.out hK.out (by have:=HG.out;omega)).at_ i hi3
      have HOP:Hid _:=HP.out.1 i hi3
      have HN:Hid (ndI vs outs (j+1)=fJ (ndI vs outs j) (eN (vs.getD i Vl.zero))):=by
       show _=_
       rw[ub (b:=true) (by rw[HL.out.1,<-HI0.out];exact hb),if_pos rfl,HL.out.1,<-HI0.out]
      have HLN:Hid ((ndI vs outs j).length=n2):=by show _=_;rw[hln,HL.out.1]
      generalize vs.getD i Vl.zero=v at hat HOP HN
      obtain⟨y0,y1,y2,y3,y4,y5⟩:=hat
      obtain⟨_,p0,p1,p2⟩:=G0.keepT HB.out hK.out xaa
      clear hb hln
      go_wp2_with fail
      clear y0 y1 y2 y3 y4 y5 p0 p1 p2 cb
      refine yai (pd wr v) ?_
      rintro e w2 ⟨gq,rfl,hI,hgq,k2⟩
      have HI:Hid _:=hI
      have HK2:Hid _:=Kept.trans hK.out (k2.mono (lo':=w.heap.size+1) (hi':=w.heap.size+2) λb _ c=>by omega)
      have HF2:Hid _:=BR.keep hF.out k2 yaa
      have HS2:Hid (w.heap.size+2<=wr.heap.size):=hF.out.lt
      clear hI hgq k2 hF hK
      generalize ndI vs outs j=F at HF2 HN HLN
      have hc3:=gX v.op
      go_wp2_with fail
      go_loopw [44] (λx W=>∃q:Nat,q<=cnt v.op/\x=.int .i64 q/\Hid (BR W (w.heap.size+1) (fJ F ((eN v).take q)))/\Hid (Kept (w.heap.size+1) (w.heap.size+2) w1 W)/\Hid (IS W wr.heap.size w2.heap.size (some ⟨gq,0,none⟩) (cnt v.op) (eN v))) (λx _=>cnt v.op-(intOf x).toNat)
      case atStart=>exact⟨0,Nat.zero_le _,rfl,HF2,HK2,HI⟩
      case round=>
       obtain⟨q,hq,rfl,hF,hK,hI⟩:=hrel
       clear HF2 HK2 HI
       by_cases hql:q<cnt v.op
       ·have hmem:(eN v).getD q 0∈eN v:=iR (by rw[iP];exact hql)
        have hob:=HOP.out _ hmem
        obtain⟨m,em,hm⟩:∃m:Nat,(eN v).getD q 0=m/\m<n2:=⟨((eN v).getD q 0).toNat,by omega,by omega⟩
        obtain⟨ga,oa,ka,ea,eq1,_,_,c1'⟩:=hI.out.at_idx (o:=q) xaa xaa
        cases ea
        rw[Int.toNat_natCast,em,Nat.zero_add] at c1'
        obtain rfl:q=ka:=xaa
        have hl:(fJ F ((eN v).take q)).length=n2:=by rw[iw];exact HLN.out
        have c2':=hF.out.cell m xaa
        have fz:=hF.out.free m
        have R1:Hid _:=BR.set hF.out m true
        rw[show m=((eN v).getD q 0).toNat by omega,<-ki _ _ (by rw[iP];exact hql),<-show m=((eN v).getD q 0).toNat by omega] at R1
        have kp:=eL (lo:=w.heap.size+1) (hi:=w.heap.size+2) wr ⟨w.heap.size+1,m,none⟩ (.bool true) yac
        have R2:Hid _:=Kept.trans hK.out kp
        have R3:Hid _:=IS.keep hI.out kp (by have:=HS2.out;omega)
        generalize (fJ F ((eN v).take q)).getD m false=z at c2'
        clear hF hK hI hob em hl kp hmem
        go_wp2
        go_roundw
        case rel=>exact⟨q+1,by omega,by go_num,R1,R2,R3⟩
        case measure=>simp[intOf];omega
       ·obtain rfl:q=cnt v.op:=xaa
        have R1:Hid (BR wr (w.heap.size+1) (ndI vs outs (j+1))):=by
         have:=hF.out
         rw[yao (by rw[iP];omega)] at this
         show BR _ _ _
         rw[HN.out]
         exact this
        have R2:Hid _:=hK.out
        clear hF hK hI
        exact xgn
    ·obtain rfl:j=n2:=xaa
     have hx:(j:Int)-1-j=-1:=xaa
     rw[hx]
     have R1:Hid _:=hF.out
     have R2:Hid (Kept 0 0 w wr):=HK.out.new hK.out xaa
     clear hF hK
     go_wp2
     go_ret
     exact⟨_,rfl,by omega,R1.out,R2.out⟩
def POg (w:World)(b1 b3:Option Addr)(g1 n1 c1 g2 g3 n3 c3:Nat)(ins:List Int)(M:List Vl×List Int)(e:Ending)(w':World):Prop:=
 ∃G2 n2 c2 us,e=.returned (eR b1 n1 c1 (some ⟨G2,0,none⟩) n2 c2 b3 n3 c3)/\PG w' g1 G2 g3 n1 n2 n3 ins us M.2/\us=M.1/\Kb us/\Chg (λb=>b=g2\/b=g3) w w'/\(G2=g2\/w.heap.size<=G2)
theorem It (w:World)(b1 b2 b3:Option Addr)(g1 n1 c1 g2 n2 c2 g3 n3 c3:Nat)(ins:List Int)(vs:List Vl)(outs:List Int)(hP:PG w g1 g2 g3 n1 n2 n3 ins vs outs)(hok:okG ins vs outs=true)(hkb:Kb vs)(h2:0<n2->b2=some ⟨g2,0,none⟩)(h3:0<n3->b3=some ⟨g3,0,none⟩):
  Calls prog 62 #[eR b1 n1 c1 b2 n2 c2 b3 n3 c3] w λe w'=>POg w b1 b3 g1 n1 c1 g2 g3 n3 c3 ins (fY vs outs) e w':=by
 obtain⟨i0,hii,hz0,hz1,hz2⟩:=info_parts oh
 obtain⟨⟨hl1,hl2,hl3⟩,_,hv,ho,_⟩:=iQ hok
 have hvl:vs.length=n2:=hP.v.len
 have hol:outs.length=n3:=hP.o.len
 have hn2:n2<=2000:=xaa
 have hn3:n3<=50:=xaa
 have HV:Hid (∀j,j<n2->okV ins vs j=true):=λj hj=>hv j xaa
 have HOUT:Hid (∀o∈outs,0<=o/\o<n2):=λo h=>by have:=ho o h;omega
 have HL:Hid (vs.length=n2):=hvl
 have HKB:Hid _:=hkb
 have k0:=ez 0 0 w (eP b1 n1 c1 b2 n2 c2 b3 n3 c3)
 have hB:=fE w (.slice b1 n1 c1) (.slice b2 n2 c2) (.slice b3 n3 c3)
 have hF:=vq w (.slice b1 n1 c1) (.slice b2 n2 c2) (.slice b3 n3 c3)
 have hz:(w.alloc (eP b1 n1 c1 b2 n2 c2 b3 n3 c3)).heap.size=w.heap.size+1:=by simp
 have k1:=ez 0 0 (w.alloc (eP b1 n1 c1 b2 n2 c2 b3 n3 c3)) eZ
 have hR:=fZ (w.alloc (eP b1 n1 c1 b2 n2 c2 b3 n3 c3))
 rw[hz] at hR
 have HB:Hid _:=hB.keep k1
 have HF:Hid _:=hF.keep k1
 have HR:Hid _:=hR
 have HP:Hid _:=hP.keep (k0.trans k1)
 have HK:Hid _:=k0.trans k1
 have HZ1:Hid (((w.alloc (eP b1 n1 c1 b2 n2 c2 b3 n3 c3)).alloc eZ).heap.size=w.heap.size+1+1):=by show _=_;simp
 have HND:Hid _:=C4 ((w.alloc (eP b1 n1 c1 b2 n2 c2 b3 n3 c3)).alloc eZ) b1 b2 b3 n1 c1 g2 n2 c2 g3 n3 c3 vs outs (hP.v.keep (k0.trans k1) yaa) (hP.o.keep (k0.trans k1) yaa) (λi hi=>jz (hv i xaa)) (λo h=>by have:=ho o h;omega) hn2 xaa h2 h3
 have HG:Hid (g1<w.heap.size/\g2<w.heap.size/\g3<w.heap.size/\g1≠g2/\g1≠g3/\g2≠g3):=⟨hP.i.lt,hP.v.lt,hP.o.lt,hP.d12,hP.d13,hP.d23⟩
 have H2:Hid _:=h2
 have H3:Hid _:=h3
 clear h2 h3 hP hok hl1 hl2 hl3 hv ho hvl hol hR hz k0 k1 hkb hB hF
 obtain⟨_,q0,q1,q2⟩:=HB.out
 go_enter func62,ntmps62
 go_wp2_with fail
 clear q0 q1 q2
 generalize (w.alloc (eP b1 n1 c1 b2 n2 c2 b3 n3 c3)).alloc eZ=w1 at HB HF HR HP HK HZ1 HND ⊢
 refine yai HND.out ?_
 rintro e w2 ⟨G,rfl,hG,hBR,k2⟩
 have hm:=o6 n2 w2 xaa
 have hT:=IR.made w2 n2
 have k3:=ez 0 0 w2 (.cells (madeCells #[.int .i64 0] n2) 3)
 have hz3:(w2.alloc (.cells (madeCells #[.int .i64 0] n2) 3)).heap.size=w2.heap.size+1:=by simp
 have k4:=ez 0 0 (w2.alloc (.cells (madeCells #[.int .i64 0] n2) 3)) (.cells #[] 35)
 have hOR:=World.ownsRow_made (base:=w2.heap.size+1) (e:=35) (size:=6) (w2.alloc (.cells (madeCells #[.int .i64 0] n2) 3)) #[] 0 xaa (by unfold maxLen;omega) rfl
 rw[hz3] at hOR
 have HB4:Hid _:=HB.out.keep (k2.trans (k3.trans k4))
 have HR4:Hid _:=HR.out.keep (k2.trans (k3.trans k4))
 have HF4:Hid _:=HF.out.keep (k2.trans (k3.trans k4))
 have HP4:Hid _:=HP.out.keep (k2.trans (k3.trans k4))
 have HK4:Hid _:=HK.out.trans (k2.trans (k3.trans k4))
 have HBR:Hid _:=hBR.keep (k3.trans k4) yaa
 have HZ4:Hid (w.heap.size+1+1<=w2.heap.size/\G<w2.heap.size/\((w2.alloc (.cells (madeCells #[.int .i64 0] n2) 3)).alloc (.cells #[] 35)).heap.size=w2.heap.size+1+1):=⟨by have:=HZ1.out;have:=k2.size;omega,hBR.lt,by simp⟩
 have HDI:Hid (DI ((w2.alloc (.cells (madeCells #[.int .i64 0] n2) 3)).alloc (.cells #[] 35)) ((w2.alloc (.cells (madeCells #[.int .i64 0] n2) 3)).alloc (.cells #[] 35)) w2.heap.size n2 (w2.heap.size+1) (w2.heap.size+1) 0 (fL (ndI vs outs n2) vs 0)):=
  ⟨by rw[fL,HL.out];exact hT.keep k4 yaa,by rw[fL,HL.out];simp,hOR,Chg.refl _ _,by simp⟩
 obtain⟨_,q0,q1,q2⟩:=HB.out.keep k2
 obtain⟨_,s0,s1,s2⟩:=HB4.out
 clear HND hBR k2 k3 k4 hOR hT hz3 HB HR HP HK
 go_wp2_with fail
 clear q0 q1 q2 s0 s1 s2 hm hG
 generalize (w2.alloc (.cells (madeCells #[.int .i64 0] n2) 3)).alloc (.cells #[] 35)=w4 at HB4 HF4 HR4 HP4 HK4 HBR HZ4 HDI ⊢
 go_loopw [5,18] (λkv x W=>∃i gk cap:Nat,i<=n2/\kv=.slice (some ⟨gk,0,none⟩) (fL (ndI vs outs n2) vs i).1.length cap/\x=.int .i64 i/\Hid (DI W w4 w2.heap.size n2 (w2.heap.size+1) gk cap (fL (ndI vs outs n2) vs i))) (λ_ x _=>n2-(intOf x).toNat)
 case atStart=>exact⟨0,w2.heap.size+1,0,Nat.zero_le _,rfl,rfl,HDI⟩
 case round=>
  obtain⟨i,gk,cap,hi,rfl,rfl,hD⟩:=hrel
  clear HDI
  by_cases hlt:i<n2
  ·obtain rfl:=H2.out xaa
   have hz8:w4.heap.size<=wr.heap.size:=hD.out.ch.size
   have hz9:=HZ4.out
   have hVA:VA wr g2 n2 vs:=HP4.out.v.keepC hD.out.ch (by have:=HG.out;omega)
   have hat:=hVA.at_ i hlt
   have hops:=jz (HV.out i hlt)
   have HAT:Hid _:=hat
   have hbr:BR wr G (ndI vs outs n2):=BR.keepC HBR.out hD.out.ch xaa
   have hnl:(ndI vs outs n2).length=n2:=by rw[ja];exact HL.out
   have cb:=hbr.cell i xaa
   have hbr2:=BR.keep hbr (ez 0 0 wr (fX (vs.getD i Vl.zero).op (vs.getD i Vl.zero).len (vs.getD i Vl.zero).a (vs.getD i Vl.zero).b (vs.getD i Vl.zero).c (vs.getD i Vl.zero).k)) yaa
   have cb2:=hbr2.cell i xaa
   have hdl:=lM (ndI vs outs n2) vs i
   cases hb:(ndI vs outs n2).getD i false
   ·have R:Hid (∀W,Kept 0 0 wr W->DI W w4 w2.heap.size n2 (w2.heap.size+1) gk cap (fL (ndI vs outs n2) vs (i+1))):=λW kW=>by rw[pP hb];exact hD.out.stay kW
    have HE:Hid (fL (ndI vs outs n2) vs (i+1)=fL (ndI vs outs n2) vs i):=pP hb
    rw[hb] at cb cb2
    generalize vs.getD i Vl.zero=v at hat cb2
    obtain⟨y0,y1,y2,y3,y4,y5⟩:=hat
    clear hb hnl hdl hops hVA hbr hbr2 hD HAT
    go_wp2
    go_roundw
    case rel=>exact⟨i+1,gk,cap,by omega,by rw[HE.out],by go_num,R.out _ (ez 0 0 _ _)⟩
    case measure=>simp[intOf];omega
   ·rw[hb] at cb cb2
    have HE:Hid _:=ww (vs:=vs) hb
    generalize hv:vs.getD i Vl.zero=v at hat cb2 HAT HE hops
    generalize hS:fL (ndI vs outs n2) vs i=S at hD HE hdl
    have HDD:Hid _:=hD.out
    have hsl:S.1.length<=2000:=xaa
    have HTL:Hid (S.2.length=n2):=hD.out.tl
    have HRN:Hid (∀W,Kept 0 0 ((wr.alloc (fX v.op v.len v.a v.b v.c v.k)).setCell ⟨w2.heap.size,i,none⟩ (.int .i64 (S.1.length:Nat))) W->Calls prog 90 #[v.agg,.slice (some ⟨w2.heap.size,0,none⟩) n2 n2] W λe w'=>e=.returned (rnm (S.2.set i (S.1.length:Nat)) v).agg/\Kept 0 0 W w'):=λW kW=>
     Hu W v _ _ (some ⟨w2.heap.size,0,none⟩) n2 n2 _ (IR.isAt (IR.keep (IR.set (IR.keep hD.out.tq (ez 0 0 wr (fX v.op v.len v.a v.b v.c v.k)) yaa) i (S.1.length:Nat)) kW yaa) (by rw[List.length_set];exact hD.out.tl)) (λo h=>by have:=hops o h;omega)
    have hIR:=IR.keep hD.out.tq (ez 0 0 wr (fX v.op v.len v.a v.b v.c v.k)) yaa
    have cT:=IR.cell hIR i (by rw[HTL.out];exact hlt)
    have fT:=IR.free hIR i
    generalize S.2.getD i 0=zz at cT
    have HX:Hid (At (wr.alloc (fX v.op v.len v.a v.b v.c v.k)) wr.heap.size 0 v):=lA wr v
    have hTV:w2.heap.size≠wr.heap.size:=xaa
    have hgb:=eG hD.out.own (k:=gk) rfl
    have HBZ:Hid (w2.heap.size+1<=gk/\w2.heap.size+1<=wr.heap.size):=⟨hgb.1,hD.out.bz⟩
    generalize rnm (S.2.set i (S.1.length:Nat)) v=nv at HE HRN
    have hkq:=eL (lo:=w2.heap.size) (hi:=w2.heap.size+1) (wr.alloc (fX v.op v.len v.a v.b v.c v.k)) ⟨w2.heap.size,i,none⟩ (.int .i64 (S.1.length:Nat)) yac
    obtain⟨x0,x1,x2,x3,x4,x5⟩:=At.keep HX.out xac hkq xaa
    obtain⟨z0,z1,z2,z3,z4,z5⟩:=HX.out
    simp only[Nat.zero_add] at x1 x2 x3 x4 x5 z1 z2 z3 z4 z5
    obtain⟨y0,y1,y2,y3,y4,y5⟩:=hat
    have HOWN:Hid _:=(hD.out.own)
    clear hb hnl hdl hops hVA hbr hbr2 hIR hgb hv HAT hkq
    go_wp2_with fail
    refine yai (HRN.out _ (Kept.refl _ _ _)) ?_
    rintro e w7 ⟨rfl,k7⟩
    have HO7:Hid _:=(eO (eH (o:=i) (u:=.int .i64 (S.1.length:Nat)) (HDD.out.own.alloc (fX v.op v.len v.a v.b v.c v.k)) (P:=w2.heap.size) (λc=>by have:=HBZ.out;simp[Value.ownBlock] at c;omega)) k7).alloc (.cells #[.int .i64 nv.op,.int .i64 nv.len,.int .i64 nv.a,.int .i64 nv.b,.int .i64 nv.c,.float .f64 nv.k] 35)
    have HN7:Hid _:=qn w7 nv 0
    have hz7:w2.heap.size+1<=w7.heap.size:=by have h1:=k7.size;have h2:=HBZ.out;simp at h1;omega
    have HK7:Hid _:=k7
    clear x0 x1 x2 x3 x4 x5 y0 y1 y2 y3 y4 y5 z0 z1 z2 z3 z4 z5 cT fT cb cb2 k7
    go_wp2_with (first|(at_builtin;refine wpList_append_lies _ rfl _ _ 24 rfl (w2.heap.size+1) 35 i0 (ib 0 0 0 0 0 0) 6 48 underlying24 hii hz0 hz1 hz2 rfl xab _ _ _ (by rfl) HO7.out ⟨w7.heap.size,0,none⟩ 1 1 nv.cells (by rfl) rfl HN7.out (uK nv) xab (by unfold maxLen;omega) xaa yaf (w7.heap.size+1) xac ?_;intro g9 cap9 w9 hown9 hg9 hat9 hlt9))
    have R:Hid _:=DI.next HDD.out (ez 0 0 wr (fX v.op v.len v.a v.b v.c v.k)) HK7.out yae hown9 hg9 HBZ.out.1
    clear hown9 hg9 hat9 hlt9
    go_roundw
    case rel=>exact⟨i+1,g9,cap9,by omega,by rw[HE.out];simp,by go_num,by rw[HE.out];exact R⟩
    case measure=>simp[intOf];omega
  ·obtain rfl:i=n2:=xaa
   have hz8:w4.heap.size<=wr.heap.size:=hD.out.ch.size
   have hz9:=HZ4.out
   have hdl:=lM (ndI vs outs i) vs i
   obtain⟨hVA,hgk⟩:=uO hD.out.own rfl
   have HA9:Hid _:=hVA
   have HQ9:Hid (IS wr w2.heap.size (w2.heap.size+1) (some ⟨w2.heap.size,0,none⟩) i (fL (ndI vs outs i) vs i).2):=IR.isAt hD.out.tq hD.out.tl
   have HB9:Hid _:=G0.keepC HB4.out hD.out.ch xaa
   have HR9:Hid _:=RB.keepC HR4.out hD.out.ch xaa
   have HF9:Hid _:=RB.keepC HF4.out hD.out.ch xaa
   have HI9:Hid _:=IBk.keepC HP4.out.i hD.out.ch (by have:=HG.out;omega)
   have HO9:Hid _:=IBk.keepC HP4.out.o hD.out.ch (by have:=HG.out;omega)
   have HRO:Hid _:=Gl wr b1 b2 b3 n1 c1 i c2 g3 n3 c3 _ _ _ i i (fL (ndI vs outs i) vs i).2 outs HO9.out HQ9.out (by have:=HG.out;omega) HOUT.out xaa H3.out
   have HK9:Hid (Chg (λb=>b=g2\/b=g3) w wr):=Chg.new HK4.out.chg hD.out.ch (λb hb c=>by omega)
   have HGK:Hid (w2.heap.size+1<=gk):=hgk
   have HM:Hid (fY vs outs=((fL (ndI vs outs i) vs i).1,jZ (fL (ndI vs outs i) vs i).2 outs)):=by show _=_;unfold fY;rw[HL.out]
   have HKK:Hid _:=oO HKB.out (ndI vs outs i) i
   clear hD hVA hgk
   obtain⟨_,p0,p1,p2⟩:=HB9.out
   go_wp2_with fail
   clear p0 p1 p2
   refine yai HRO.out ?_
   rintro e w5 ⟨rfl,hO2,k2⟩
   generalize hSS:fL (ndI vs outs i) vs i=S at HA9 HQ9 HM HKK hO2 hdl ⊢
   have HB2:Hid _:=G0.keepT HB9.out k2 (by have:=HG.out;omega)
   have HA2:Hid _:=HA9.out.keep k2 (by have:=HG.out;have:=HGK.out;omega)
   have HI2:Hid _:=HI9.out.keep k2 (by have:=HG.out;omega)
   have HO2:Hid _:=hO2
   have HK2:Hid (Chg (λb=>b=g2\/b=g3) w w5):=Chg.trans HK9.out (k2.chg1 (.inr rfl))
   have HR2:Hid _:=RB.keepC HR9.out (k2.chg1 (S:=λb=>b=g3) rfl) (by have:=HG.out;omega)
   have HF2:Hid _:=RB.keepC HF9.out (k2.chg1 (S:=λb=>b=g3) rfl) (by have:=HG.out;omega)
   clear hO2 HRO HB9 HA9 HQ9 HI9 HO9 HK9 hSS
   obtain⟨_,p0,p1,p2,v0,v1,v2⟩:=HF2.out
   obtain⟨_,r0,r1,r2,f0,f1,f2⟩:=HR2.out
   have hPR:w.heap.size+1≠w.heap.size:=xaa
   go_wp2_with fail
   have kb:=eL (lo:=w.heap.size) (hi:=w.heap.size+1) w5 ⟨w.heap.size,1,none⟩ (.slice (some ⟨gk,0,none⟩) S.1.length cap) yac
   have HRQ:=RB.keepC HR2.out (kb.chg1 (S:=λb=>b=w.heap.size) rfl) xaa
   obtain⟨y0,y1,y2⟩:=eY (w5.setCell ⟨w.heap.size,1,none⟩ (.slice (some ⟨gk,0,none⟩) S.1.length cap)) (w.heap.size+1) _ _ _ HRQ.q0 HRQ.q1 HRQ.q2 (.slice b1 n1 c1) (.slice (some ⟨gk,0,none⟩) S.1.length cap) (.slice b3 n3 c3)
   have kp:=fc (w5.setCell ⟨w.heap.size,1,none⟩ (.slice (some ⟨gk,0,none⟩) S.1.length cap)) (w.heap.size+1) (.slice b1 n1 c1) (.slice (some ⟨gk,0,none⟩) S.1.length cap) (.slice b3 n3 c3)
   refine yay (v:=eR b1 n1 c1 (some ⟨gk,0,none⟩) S.1.length cap b3 n3 c3) (by simp[results,results62,go_sem,y0,y1,y2]) rfl ⟨gk,S.1.length,cap,S.1,rfl,⟨?_,?_,?_,?_,?_,?_⟩,?_,HKK.out,?_,.inr (by have:=HGK.out;omega)⟩
   ·exact(HI2.out.keep kb (by have:=HG.out;omega)).keep kp (by have:=HG.out;omega)
   ·exact(HA2.out.keep kb (by have:=HGK.out;omega)).keep kp (by have:=HGK.out;omega)
   ·rw[HM.out];exact(HO2.out.keep kb (by have:=HG.out;omega)).keep kp (by have:=HG.out;omega)
   ·have:=HG.out;have:=HGK.out;omega
   ·exact HG.out.2.2.2.2.1
   ·have:=HG.out;have:=HGK.out;omega
   ·rw[HM.out]
   ·exact Chg.new (Chg.new HK2.out (kb.chg1 (S:=λb=>b=w.heap.size) rfl) (λb hb c=>by omega)) (kp.chg1 (S:=λb=>b=w.heap.size+1) rfl) (λb hb c=>by omega)
theorem m9 {P:Program}{w:World}{a:Addr}{m:Mode}(f:Fn)(b c:Array Value):(store a (.func f b c) m).run P w=stored P w a (.func f b c) m:=run_store P w a _ m rfl
attribute [local go_sem] m9
theorem C5 (w:World)(g off m cap:Nat)(n:Int)(xs:List Int)(hx:xs.length=m)(hm:m<=1000)(hc:∀k,k<m->w.cell? ⟨g,off+k,none⟩=some (.int .i64 (xs.getD k 0))):
  Calls prog 33 #[.int .i64 n,.slice (some ⟨g,off,none⟩) m cap] w λe w'=>e=.returned (.bool (xs.all (fC · n)))/\w=w':=by
 have HC:Hid _:=hc
 have HX:Hid (xs.length=m):=hx
 clear hc hx
 go_enter func33,ntmps33
 go_wp2_with fail
 go_loop [9] (λi=>∃k:Nat,k<=m/\i=.int .i64 k/\Hid ((xs.take k).all (fC · n)=true)) (λi=>m-(intOf i).toNat)
 case atStart=>exact⟨0,Nat.zero_le _,rfl,rfl⟩
 case round=>
  obtain⟨k,hk,rfl,hA⟩:=hrel
  by_cases hlt:k<m
  ·have c:=HC.out k hlt
   cases t:fC (xs.getD k 0) n
   ·have R:Hid (xs.all (fC · n)=false):=by
     show _=_
     rw[List.all_eq_false]
     exact⟨xs.getD k 0,iR (by rw[HX.out];exact hlt),by show ¬fC _ _=true;rw[t];decide⟩
    have HI:Hid _:=gI (xs.getD k 0) n w
    rw[t] at HI
    generalize xs.getD k 0=x at c HI
    clear t
    go_wp2_with fail
    refine yai HI.out ?_
    rintro e w2 ⟨rfl,hw⟩
    have R3:Hid (w=w2):=hw.symm
    clear hw
    go_wp2
    go_ret
    exact⟨by rw[R.out];rfl,R3.out⟩
   ·have R:Hid ((xs.take (k+1)).all (fC · n)=true):=by
     show _=_
     rw[yat (by rw[HX.out];exact hlt),List.all_append,hA.out]
     rw[yah,yal (by rw[HX.out];exact hlt)] at t
     simpa using t
    have HI:Hid _:=gI (xs.getD k 0) n w
    rw[t] at HI
    generalize xs.getD k 0=x at c HI
    clear t
    go_wp2_with fail
    refine yai HI.out ?_
    rintro e w2 ⟨rfl,rfl⟩
    exact xeu
  ·obtain rfl:k=m:=xaa
   have R:Hid (xs.all (fC · n)=true):=by
    exact xiw
   clear hA
   go_wp2
   go_ret
   exact⟨by rw[R.out];rfl,rfl⟩
theorem C6 (w:World)(a:Option Addr)(cap:Nat)(n:Int):Calls prog 33 #[.int .i64 n,.slice a 0 cap] w λe w'=>e=.returned (.bool true)/\w=w':=by
 go_enter func33,ntmps33
 exact xid
theorem C7 (w:World)(lo hi:Nat)(a:Option Addr)(m cap:Nat)(n:Int)(xs:List Int)(f:IS w lo hi a m xs)(hm:m<=1000):Calls prog 33 #[.int .i64 n,.slice a m cap] w λe w'=>e=.returned (.bool (xs.all (fC · n)))/\w=w':=by
 rcases f.at_ with z|⟨g,off,rfl,_,_,_,hc⟩
 ·subst z
  have:xs=[]:=List.length_eq_zero_iff.1 f.len
  subst this
  exact C6 w a cap n
 ·exact C5 w g off m cap n xs f.len hm hc
structure AP (W:World)(A:Nat):Prop where
 lt:A<W.heap.size
 p0:W.cell? ⟨A,0,none⟩=some (.func (.func 62) #[] #[])
 p1:W.cell? ⟨A,1,none⟩=some (.func (.func 63) #[] #[])
 p2:W.cell? ⟨A,2,none⟩=some (.func (.func 64) #[] #[])
 p3:W.cell? ⟨A,3,none⟩=some (.func (.func 65) #[] #[])
 p4:W.cell? ⟨A,4,none⟩=some (.func (.func 66) #[] #[])
theorem AP.keepC {W:World}{S:Nat->Prop}{A:Nat}(t:AP W A)(k:Chg S W W')(hd:¬S A):AP W' A:=by
 have e:∀o,W'.cell? ⟨A,o,none⟩=W.cell? ⟨A,o,none⟩:=λo=>k.cell (p:=⟨A,o,none⟩) t.lt hd
 exact⟨yaj t.lt k.size,by rw[e];exact t.p0,by rw[e];exact t.p1,by rw[e];exact t.p2,by rw[e];exact t.p3,by rw[e];exact t.p4⟩
abbrev EU:Value:=.agg #[.func (.func 62) #[] #[],.func (.func 63) #[] #[],.func (.func 64) #[] #[],.func (.func 65) #[] #[],.func (.func 66) #[] #[]]
abbrev wy:Obj:=.cells #[.func (.func 62) #[] #[],.func (.func 63) #[] #[],.func (.func 64) #[] #[],.func (.func 65) #[] #[],.func (.func 66) #[] #[]] 62
theorem AL (w:World):AP (w.alloc wy) w.heap.size:=by
 exact xjj
theorem xZ (w:World):Calls prog 34 #[] w λe w'=>e=.returned EU/\Kept 0 0 w w':=by
 go_enter func34,ntmps34
 go_wp2
 refine yay (v:=EU) (by simp[results,results34,go_sem]) rfl ⟨rfl,?_⟩
 exact ez _ _ _ _
abbrev EV (w:World)(g:Nat)(x y z:Value):World:=((w.setCell ⟨g,0,none⟩ x).setCell ⟨g,1,none⟩ y).setCell ⟨g,2,none⟩ z
end
section
open Go.RowKit Flt
attribute [local go_sem] eD eB eA
theorem sB (w:World)(b1 b2 b3:Option Addr)(n1 c1 n2 c2 n3 c3:Nat)(ins:List Int)(vs:List Vl)(outs:List Int)(f:GS w b1 n1 b2 n2 b3 n3 ins vs outs)(l1:n1<=1000000)(l2:n2<=1000000)(l3:n3<=1000000):
  Calls prog 54 #[eR b1 n1 c1 b2 n2 c2 b3 n3 c3] w λe w'=>∃a1 d1 a2 d2 a3 d3,e=.returned (eR a1 n1 d1 a2 n2 d2 a3 n3 d3)/\w'.ownsRow w.heap.size 3 1 (.slice a1 n1 d1) n1 (ins.map (Value.int .i64))/\w'.ownsRow w.heap.size 35 6 (.slice a2 n2 d2) n2 (fp vs)/\w'.ownsRow w.heap.size 3 1 (.slice a3 n3 d3) n3 (outs.map (Value.int .i64))/\
   (Apart (.slice a2 n2 d2) (.slice a1 n1 d1)/\Apart (.slice a2 n2 d2) (.slice a3 n3 d3)/\Apart (.slice a1 n1 d1) (.slice a3 n3 d3))/\Kept 0 0 w w':=by
 obtain⟨i0,hi,hz0,hz1,hz2⟩:=info_parts oh
 have k1:=ez 0 0 w (eP b1 n1 c1 b2 n2 c2 b3 n3 c3)
 have k2:=ez 0 0 (w.alloc (eP b1 n1 c1 b2 n2 c2 b3 n3 c3)) eZ
 have HB:Hid _:=(fE w (.slice b1 n1 c1) (.slice b2 n2 c2) (.slice b3 n3 c3)).keep k2
 have hN:=fZ (w.alloc (eP b1 n1 c1 b2 n2 c2 b3 n3 c3))
 rw[show(w.alloc (eP b1 n1 c1 b2 n2 c2 b3 n3 c3)).heap.size=w.heap.size+1 by simp] at hN
 have HR:Hid _:=hN
 have HK:Hid _:=k1.trans k2
 have HI1:Hid _:=f.i.keep (k1.trans k2) yaa
 have HI2:Hid _:=f.v.keep (k1.trans k2) yaa
 have HI3:Hid _:=f.o.keep (k1.trans k2) yaa
 clear f hN k1 k2
 obtain⟨_,q0,q1,q2⟩:=HB.out
 go_enter func54,ntmps54
 go_upto_region 2 with fail
 generalize (w.alloc (eP b1 n1 c1 b2 n2 c2 b3 n3 c3)).alloc eZ=w2 at HB HR HK HI1 HI2 HI3 q0 q1 q2 ⊢
 have HN:Hid _:=I4 HI2.out
 go_wp2_with (first|(at_builtin;refine j9 _ rfl _ _ 24 rfl w2.heap.size 35 i0 (ib 0 0 0 0 0 0) 6 48 underlying24 hi hz0 hz1 hz2 rfl xab rfl b2 n2 c2 (fp vs) rfl ?c0 HN.out ?c2 ?c3 ?c4 ?c5 ?_))
 case c0=>rw[mR,HI2.out.len]
 case c2=>exact Fp vs
 case c3=>unfold maxLen;omega
 case c4=>omega
 case c5=>exact yad
 intro v' w3 hown3 hg3
 obtain⟨a2,d2,rfl⟩:=iH hown3
 have k3:=j5 (base:=w2.heap.size) hg3 (λk hk=>by cases hk) (Kept.refl 0 0 w2) yad
 have HO2:Hid _:=hown3
 have HK3:Hid _:=k3
 clear hown3 hg3 HN q0 q1 q2 k3
 obtain⟨_,q0,q1,q2⟩:=G0.keep HB.out HK3.out
 have hI1:=IS.keep HI1.out HK3.out yaa
 have HJ1:Hid _:=hI1
 have HJ3:Hid _:=IS.keep HI3.out HK3.out yaa
 have HB3:Hid _:=G0.keep HB.out HK3.out
 have HR3:Hid _:=RB.keep HR.out HK3.out
 have HQ:Hid (w.heap.size+1<w2.heap.size/\w.heap.size<=w2.heap.size/\w2.heap.size<=w3.heap.size):=⟨HR.out.sz,HK.out.size,HK3.out.size⟩
 clear hI1 HB HR HI1 HI2 HI3
 go_wp2_with fail
 go_region_held3 (λw'=>w'.cell? ⟨w.heap.size,0,none⟩=some (.slice b1 n1 c1)/\w'.cell? ⟨w.heap.size,2,none⟩=some (.slice b3 n3 c3)) (first|go_keep|(simp only[zc _ _ _ _ _ _ _ hne];exact⟨r0,r2⟩))
  (first
   |(go_at_call 52;refine yai (lH w4 _ _ b3 n3 c3 outs l3 (IS.keep HJ3.out kk1 yaa)) ?_;rintro e w5 ⟨a3,d3,rfl,o3,k5⟩;have kk2:=Kept.trans kk1 k5;obtain⟨_,r0,r1,r2⟩:=G0.keep HB3.out kk2;obtain⟨_,t0,t1,t2,x0,x1,x2⟩:=RB.keep HR3.out kk2;have hne:w.heap.size≠w.heap.size+1:=by omega)
   |(go_at_call 52;refine yai (lH (w3.drewN 1) _ _ b1 n1 c1 ins l1 (IS.keep HJ1.out (eK 0 0 w3 1) yaa)) ?_;rintro e w4 ⟨a1,d1,rfl,o1,k4⟩;have kk1:=Kept.trans (eK 0 0 w3 1) k4;obtain⟨_,s0,s1,s2⟩:=G0.keep HB3.out kk1))
 go_wp2_with fail
 obtain⟨y0,y1,y2⟩:=eY w5 (w.heap.size+1) _ _ _ t0 t1 t2 (.slice a1 n1 d1) (.slice a2 n2 d2) (.slice a3 n3 d3)
 have kp:=fc w5 (w.heap.size+1) (.slice a1 n1 d1) (.slice a2 n2 d2) (.slice a3 n3 d3)
 have hz3:(w3.drewN 1).heap.size=w3.heap.size:=rfl
 have hz4:=k4.size
 have hQ:=HQ.out
 have key:∀{b e size n:Nat} {v:Value} {xs:List Value} {W:World},W.ownsRow b e size v n xs->w2.heap.size<=b->Kept 0 0 W w5->(((w5.setCell ⟨w.heap.size+1,0,none⟩ (.slice a1 n1 d1)).setCell ⟨w.heap.size+1,1,none⟩ (.slice a2 n2 d2)).setCell ⟨w.heap.size+1,2,none⟩ (.slice a3 n3 d3)).ownsRow w.heap.size e size v n xs:=λh hb k=>
  iq (fK (eO h k) kp (λg hg=>by have:=(eG h hg).1;omega)) xaa
 refine yay (v:=eR a1 n1 d1 a2 n2 d2 a3 n3 d3) (by simp[results,results54,go_sem,y0,y1,y2]) rfl ⟨a1,d1,a2,d2,a3,d3,rfl,key o1 xaa k5,key HO2.out yad kk2,key o3 xaa (Kept.refl 0 0 _),⟨kB HO2.out o1 xaa,kB HO2.out o3 xaa,kB o1 o3 yad⟩,Kept.new ((HK.out.trans HK3.out).trans kk2) kp xaa⟩
end
section
open Go.RowKit Flt Ieee
variable {x:List UInt8}
theorem C8 (s:Bool)(mag:Nat)(place:Int):∃r,double.nearest s mag place=W s r/\r<=9218868437227405312:=by
 unfold Ieee.Format.nearest
 by_cases h:mag=0
 ·rw[if_pos h,lR];exact⟨0,rfl,by omega⟩
 ·rw[if_neg h]
  simp only[lR,oU]
  exact⟨_,rfl,Nat.min_le_right _ _⟩
theorem uc (neg:Bool)(n drop:Nat):Ieee.Toward.cut .even neg n drop<=n+1:=by
 unfold Ieee.Toward.cut
 simp only
 exact Nat.add_le_add (Nat.div_le_self _ _) (Bool.toNat_le _)
theorem pQ (mag:Nat)(h:mag<=10000000000000000):∃r,double.nearest false mag 0=W false r/\r<9218868437227405312/\(0<mag->0<r):=by
 unfold Ieee.Format.nearest
 by_cases h0:mag=0
 ·rw[if_pos h0,lR];exact⟨0,rfl,by omega,λc=>by omega⟩
 ·rw[if_neg h0]
  simp only[lR,oU,lQ,mM,rm]
  have hL:mag.log2<=53:=by
   have:=(Nat.log2_lt h0).2 (show mag<2 ^ 54 by omega)
   omega
  have hm:mag<2 ^ (mag.log2+1):=Nat.lt_log2_self
  generalize mag.log2=L at*
  have hl:max ((0:Int)+(L:Int)-((52:Nat):Int)) (-1074)=(L:Int)-52:=xaa
  rw[hl]
  have hn:mag<<<(0-((L:Int)-52)).toNat<=10000000000000000:=by
   rw[Nat.shiftLeft_eq]
   by_cases c:L<=52
   ·have e:(0-((L:Int)-52)).toNat=52-L:=xaa
    rw[e]
    have h1:mag*2 ^ (52-L)<=2 ^ (L+1)*2 ^ (52-L):=Nat.mul_le_mul_right _ (Nat.le_of_lt hm)
    rw[<-Nat.pow_add,show L+1+(52-L)=53 by omega] at h1
    omega
   ·have e:(0-((L:Int)-52)).toNat=0:=xaa
    rw[e]
    omega
  have hk:=uc false (mag<<<(0-((L:Int)-52)).toNat) ((L:Int)-52-0).toNat
  generalize Ieee.Toward.cut .even false (mag<<<(0-((L:Int)-52)).toNat) ((L:Int)-52-0).toNat=K at*
  have hi:((L:Int)-52- -1074).toNat=L+1022:=xaa
  rw[hi]
  refine⟨_,rfl,?_,λ_=>?_⟩<;>omega
theorem AM {s:Bool}{r:Nat}(h:r<=9218868437227405312):(double.read (W s r)).isNaN=false:=by
 rcases Nat.lt_or_eq_of_le h with h|rfl
 ·rw[im h];rfl
 ·rw[lu];rfl
theorem C9 {n d:Int}(h0:0<=n)(h1:n<=10000000000000000)(h2:1<=d)(h3:d<=10000000000000000):(f64.read (cop .quo (floatOfInt .f64 n) (floatOfInt .f64 d))).isNaN=false:=by
 obtain⟨r,e1,hr,_⟩:=pQ n.natAbs xaa
 obtain⟨q,e2,hq,q0⟩:=pQ d.natAbs xaa
 have f1:floatOfInt .f64 n=W false r:=by
  rw[<-e1]
  show double.nearest (decide (n<0)) n.natAbs 0=_
  rw[yax xaa]
 have f2:floatOfInt .f64 d=W false q:=by
  rw[<-e2]
  show double.nearest (decide (d<0)) d.natAbs 0=_
  rw[yax xaa]
 rw[f1,f2]
 have hM:=EF (q0 xaa)
 have e:floatBits .quo .f64 (W false r) (W false q)=((double.read (W false r)).quotient (double.fractionBits+2) (double.read (W false q))).map double.write:=rfl
 unfold cop
 rw[e,im hr,im hq]
 simp only[Ieee.Datum.quotient,if_neg (show ¬M q=0 by omega),Option.map_some,Option.getD_some,Ieee.Format.write]
 obtain⟨z,e3,hz⟩:=C8 (false ^^ false) (2*((M r<<<(double.fractionBits+2+(M q).log2-(M r).log2))/M q)+((M r<<<(double.fractionBits+2+(M q).log2-(M r).log2))%M q !=0).toNat) (-1074+(E r:Nat)-(-1074+(E q:Nat))-(double.fractionBits+2+(M q).log2-(M r).log2:Nat)-1)
 rw[e3]
 exact AM hz
theorem Da (h:i9 x):(f64.read (ll x)).isNaN=false:=by
 obtain⟨⟨p,hp⟩,hd⟩:=h
 obtain⟨h1,h2,h3,h4⟩:=qA _ hp.digit _ yad (hp.short hd)
 rw[yao yad] at h1 h2 h3 h4
 exact C9 h1 h2 h3 h4
theorem nT (h:i9 x){f:Nat}{c:Int}(k:RN (gc x) f c):f=ll x/\c=0:=by
 rcases k with⟨h1,_⟩|⟨_,h2,_⟩|⟨_,_,_,h4,h5⟩
 ·exact absurd h.1 h1
 ·have:=h.2;omega
 ·refine⟨?_,h5⟩
  rcases yN h4 with e|⟨_,e⟩
  ·exact e
  ·have:=Da h
   rw[ll,e] at this
   cases this
end
section
open Go.RowKit Flt
theorem kK (w:World)(e:TypeId)(s:ByteArray):Kept 0 0 w (Lib.bytesWorld w e s):=
 ⟨rfl,rfl,rfl,by rw[Lib.bytesWorld_size];omega,λk hk _=>Lib.bytesWorld_at_old w e s k hk⟩
theorem nd (w:World)(e:TypeId)(t:List UInt8):YS (Lib.bytesWorld w e ⟨t.toArray⟩) (some ⟨w.heap.size,0,none⟩) t.length (gc t) where
 len:=by unfold gc;rw[List.length_map]
 lt:=λx hx=>by
  unfold gc at hx
  obtain⟨b,_,rfl⟩:=List.mem_map.1 hx
  have:=b.toNat_lt
  omega
 at_:=.inr ⟨w.heap.size,0,rfl,by rw[Lib.bytesWorld_size];omega,λk hk=>by
  rw[Nat.zero_add,Lib.bytesWorld_cell w e ⟨t.toArray⟩ k hk,nK t k hk]
  rfl⟩
theorem oP {x:List UInt8}(h:i9 x):x.length<=16:=by
 obtain⟨⟨p,hp⟩,hd⟩:=h
 have:=hp.short hd
 unfold gc at this
 rwa [List.length_map] at this
theorem wz (x:List UInt8):ll x<18446744073709551616:=AK _ _ _
def qT (w w':World)(n1 n3:Nat)(ins outs:List Int)(M:List Vl×Int)(e:Ending):Prop:=
 ∃b1 d1 b3 d3 a2 cap,e=.returned (.tuple #[eR b1 n1 d1 a2 M.1.length cap b3 n3 d3,.int .i64 M.2])/\w'.ownsRow w.heap.size 3 1 (.slice b1 n1 d1) n1 (ins.map (Value.int .i64))/\w'.ownsRow w.heap.size 35 6 (.slice a2 M.1.length cap) M.1.length (fp M.1)/\w'.ownsRow w.heap.size 3 1 (.slice b3 n3 d3) n3 (outs.map (Value.int .i64))/\Apart (.slice b1 n1 d1) (.slice b3 n3 d3)
end
section
open Go.RowKit Flt
attribute [local go_sem] eD eB eA
theorem sC (w:World)(qa qc:Option Addr)(g2 n1 c1 n2 c2 n3 c3:Nat)(s x:Nat)(ins:List Int)(vs:List Vl)(outs:List Int)(f:GS w qa n1 (some ⟨g2,0,none⟩) n2 qc n3 ins vs outs)(fv:VA w g2 n2 vs)(l1:n1<=1000000)(l2:n2<=2000)(l3:n3<=1000000)(hok:(List.range n2).all (okV ins vs)=true)(hc5:eX vs<=50000)(hs:s<n2)(hx:x<n2)(ha:(ij vs x (s-x)).getD s false=false):
  Calls prog 128 #[eR qa n1 c1 (some ⟨g2,0,none⟩) n2 c2 qc n3 c3,.int .i64 (s:Int),.int .i64 (x:Int)] w λe w'=>qT w w' n1 n3 ins outs (grM vs s x) e/\Kept 0 0 w w':=by
 have HG:Hid (grM vs s x=(vs++[eI 1 (vs.getD x Vl.zero).len 0 0 0],((vs.length:Nat):Int))):=by
  show _=_
  unfold grM
  rw[if_neg (by rw[ha];simp)]
 have hlen:∀j,j<n2->1<=(vs.getD j Vl.zero).len/\(vs.getD j Vl.zero).len<=1000:=λj hj=>il (List.all_eq_true.1 hok j (List.mem_range.2 hj))
 have hops:∀j,j<n2->∀k,k<cnt (vs.getD j Vl.zero).op->0<=fld (vs.getD j Vl.zero) k/\fld (vs.getD j Vl.zero) k<j:=λj hj=>j6 (List.all_eq_true.1 hok j (List.mem_range.2 hj))
 have hop:∀j,j<n2->0<=(vs.getD j Vl.zero).op/\(vs.getD j Vl.zero).op<=13:=λj hj=>uT (List.all_eq_true.1 hok j (List.mem_range.2 hj))
 have kn:Kept 0 0 w ((w.alloc (eP qa n1 c1 (some ⟨g2,0,none⟩) n2 c2 qc n3 c3)).alloc eZ):=(ez 0 0 w _).trans (ez 0 0 _ _)
 have HB:Hid _:=(fE w (.slice qa n1 c1) (.slice (some ⟨g2,0,none⟩) n2 c2) (.slice qc n3 c3)).keep (ez 0 0 _ eZ)
 have HFZ:Hid (∀o,((w.alloc (eP qa n1 c1 (some ⟨g2,0,none⟩) n2 c2 qc n3 c3)).alloc eZ).frozen? ⟨w.heap.size,o,none⟩=false):=λo=>by simp
 have hN:=fZ (w.alloc (eP qa n1 c1 (some ⟨g2,0,none⟩) n2 c2 qc n3 c3))
 rw[show(w.alloc (eP qa n1 c1 (some ⟨g2,0,none⟩) n2 c2 qc n3 c3)).heap.size=w.heap.size+1 by simp] at hN
 have HR:Hid _:=hN
 have HXA:Hid _:=tz _ qa qc g2 n1 c1 n2 c2 n3 c3 s x vs (fv.keep kn yaa) l2 hs hx hop hops
 have HXC:Hid (∀W,Kept 0 0 ((w.alloc (eP qa n1 c1 (some ⟨g2,0,none⟩) n2 c2 qc n3 c3)).alloc eZ) W->_):=λW (k:Kept 0 0 ((w.alloc (eP qa n1 c1 (some ⟨g2,0,none⟩) n2 c2 qc n3 c3)).alloc eZ) W)=>sB W qa (some ⟨g2,0,none⟩) qc n1 c1 n2 c2 n3 c3 ins vs outs (f.keep (kn.trans k)) l1 xaa l3
 have HVX:Hid (∀W,Kept 0 0 ((w.alloc (eP qa n1 c1 (some ⟨g2,0,none⟩) n2 c2 qc n3 c3)).alloc eZ) W->W.cell? ⟨g2,x*6+1,none⟩=some (.int .i64 (vs.getD x Vl.zero).len)):=λW k=>((fv.keep (kn.trans k) yaa).at_ x hx).c1
 have HLN:Hid (vs.length=n2):=f.v.len
 have HLE:Hid _:=hlen
 have HOS:Hid _:=hops
 have HOP:Hid _:=hop
 have HOK:Hid _:=hok
 have HZ:Hid (SzU 2000 50000 vs):=⟨by have:=f.v.len;omega,kD vs (λj hj=>by have:=hlen j (by have:=f.v.len;omega);omega),hc5⟩
 have hx1:(0:Int)<=(x:Int):=xaa
 have hx2:(x:Int)<(n2:Int):=xaa
 have hs1:(0:Int)<=(s:Int):=xaa
 have hs2:(s:Int)<(n2:Int):=xaa
 have hwz:((w.alloc (eP qa n1 c1 (some ⟨g2,0,none⟩) n2 c2 qc n3 c3)).alloc eZ).heap.size=w.heap.size+1+1:=by simp
 clear hN kn f hok hc5 hlen hops hop
 go_enter func128,ntmps128
 go_wp2_with fail
 refine yai HXA.out ?_
 rintro e w1 ⟨A,rfl,hA,hAl,k1⟩
 rw[hwz] at hAl
 obtain⟨_,p0,p1,p2⟩:=HB.out.keep k1
 have hlx:=HVX.out w1 k1
 generalize hlnx:(vs.getD x Vl.zero).len=lx at hlx
 have HLX:Hid ((vs.getD x Vl.zero).len=lx):=hlnx
 clear hlnx HVX HXA
 have HA:Hid (BR w1 A (ij vs x (s-x))):=hA
 have HK1:Hid _:=k1
 clear hA k1
 go_wp2_with fail
 clear hlx
 refine yai (HXC.out w1 HK1.out) ?_
 rintro e w2 ⟨b1,d1,a2,d2,b3,d3,rfl,o1,o2,o3,⟨q1,q2,q3⟩,k2⟩
 have hw1:w.heap.size+1+1<=w1.heap.size:=by have:=HK1.out.size;omega
 have HL:Hid (LK w (fe w2 w.heap.size (.slice b1 n1 d1) (.slice a2 n2 d2) (.slice b3 n3 d3)) b1 n1 d1 b3 n3 d3 ins outs vs w1.heap.size (Value.slice a2 n2 d2).ownBlock a2 d2):=LK.start HLN.out HB.out HFZ.out HR.out (HK1.out.trans k2) hw1 k2.size o1 o2 o3 q1 q2 q3
 have HBA:Hid (BR (fe w2 w.heap.size (.slice b1 n1 d1) (.slice a2 n2 d2) (.slice b3 n3 d3)) A (ij vs x (s-x))):=BR.keep (BR.keep HA.out k2 yaa) (fc w2 w.heap.size _ _ _) (.inr (.inl xaa))
 have HFA:Hid (Farb w b1 n1 d1 b3 n3 d3 (Value.slice a2 n2 d2).ownBlock A):=⟨hAl,λc=>by have:=(eG o2 c).1;have:=(BR.lt HA.out);omega,λc=>by have:=(eG o1 c).1;have:=(BR.lt HA.out);omega,λc=>by have:=(eG o3 c).1;have:=(BR.lt HA.out);omega⟩
 clear p0 p1 p2
 obtain⟨_,p0,p1,p2⟩:=HB.out.keep (HK1.out.trans k2)
 have f0:=((HK1.out.trans k2).frozen (p:=⟨w.heap.size,0,none⟩) HB.out.sz xaa).trans (HFZ.out 0)
 have f1:=((HK1.out.trans k2).frozen (p:=⟨w.heap.size,1,none⟩) HB.out.sz xaa).trans (HFZ.out 1)
 have f2:=((HK1.out.trans k2).frozen (p:=⟨w.heap.size,2,none⟩) HB.out.sz xaa).trans (HFZ.out 2)
 have yA:=BR.cell HBA.out s (by rw[lC,HLN.out];exact hs)
 rw[ha] at yA
 unfold fe at yA HL HBA
 clear o1 o2 o3 q1 q2 q3 k2 HXC HB HFZ HR HA HK1 hwz
 rw[HLX.out] at HG
 have hnb:vs.length<=1000000:=by have:=HLN.out;omega
 by_cases hsx:s<x
 all_goals
  (first|(have tx:(s:Int)<(x:Int):=by omega)|(have tx:¬((s:Int)<(x:Int)):=by omega))
  go_upto_region 5 with fail
  clear p0 p1 p2 f0 f1 f2 yA
  generalize ((w2.setCell ⟨w.heap.size,0,none⟩ (.slice b1 n1 d1)).setCell ⟨w.heap.size,1,none⟩ (.slice a2 n2 d2)).setCell ⟨w.heap.size,2,none⟩ (.slice b3 n3 d3)=wP at HL HBA ⊢
  rw[<-HLN.out] at HL ⊢
  have s0:=HL.out.g.c0
  have s1:=HL.out.g.c1
  have s2:=HL.out.g.c2
  go_cut [] (λwx=>∃g' cap',Hid (LK w wx b1 n1 d1 b3 n3 d3 ins outs (vs++[eI 1 lx 0 0 0]) w1.heap.size (some g') (some ⟨g',0,none⟩) cap'))
  case first=>
   go_region_with (first
    |(go_at_call 24;refine yai (LK.call HL.out ((eC wP).trans k1) (eI 1 lx 0 0 0) hnb) ?_;rintro e w2 ⟨g',cap',rfl,⟨_,r0⟩,⟨_,r1⟩,⟨_,r2⟩,rf,hS2⟩;have rf0:=rf 0;have rf1:=rf 1;have rf2:=rf 2;have HS2:Hid _:=hS2.out.1;clear rf hS2)
    |(go_at_call 41;refine yai (lY _ _) ?_;rintro e w1 ⟨rfl,k1⟩;have p0:=(LK.keep HL.out ((eC wP).trans k1)).g.c0;have p1:=(LK.keep HL.out ((eC wP).trans k1)).g.c1;have p2:=(LK.keep HL.out ((eC wP).trans k1)).g.c2))
   all_goals (go_wp2_with fail;go_meet;exact⟨g',cap',HS2⟩)
  case rest=>
   obtain⟨g',cap',hS2⟩:=hcut
   have hl1:(vs++[eI 1 lx 0 0 0]).length=vs.length+1:=by simp
   generalize hu:vs++[eI 1 lx 0 0 0]=us2 at hS2 HG hl1
   clear s0 s1 s2 hu HL
   have s0:=hS2.out.g.c0
   have s1:=hS2.out.g.c1
   have s2:=hS2.out.g.c2
   obtain⟨_,t0,t1,t2,x0,x1,x2⟩:=hS2.out.b
   have HLast:Hid (∀W:World,_):=λW=>ir W b1 (some ⟨g',0,none⟩) b3 n1 d1 us2.length cap' n3 d3 (show us2.length<=1000000 by have:=HLN.out;have:=hl1;omega)
   rw[show(us2.length:Int)-1=((vs.length:Nat):Int) by omega] at HLast
   clear hl1
   go_wp2_with fail
   go_region_with (first
    |(go_at_call 27;refine yai (HLast.out _) ?_;rintro e w3 ⟨rfl,k3⟩;clear t0 t1 t2 x0 x1 x2;have q0:=(hS2.out.keep ((eC wc).trans k3)).g.c0;have q1:=(hS2.out.keep ((eC wc).trans k3)).g.c1;have q2:=(hS2.out.keep ((eC wc).trans k3)).g.c2;obtain⟨_,t0,t1,t2,x0,x1,x2⟩:=(hS2.out.keep ((eC wc).trans k3)).b))
   all_goals
    have A4:Hid _:=hS2.out.a4
    have R1:Hid _:=hS2.out.fin ((eC wc).trans k3)
    obtain⟨y0,y1,y2⟩:=eY w3 (w.heap.size+1) _ _ _ t0 t1 t2 (.slice b1 n1 d1) (.slice (some ⟨g',0,none⟩) us2.length cap') (.slice b3 n3 d3)
    go_wp2_with fail
    refine yay (v:=.tuple #[eR b1 n1 d1 (some ⟨g',0,none⟩) us2.length cap' b3 n3 d3,.int .i64 ((vs.length:Nat):Int)]) (by simp[results,results128,go_sem,y0,y1,y2]) rfl ⟨?_,R1.out.2⟩
    rw[HG.out]
    exact⟨b1,d1,b3,d3,some ⟨g',0,none⟩,cap',rfl,R1.out.1.1,R1.out.1.2.1,R1.out.1.2.2,A4.out⟩
