import Derived.Test.YtgamjhpebmmjcaaGreatDoorP16
import Derived.Test.YtgamjhpebmmjcaaGreatDoorP10
namespace Go.Proofs.YtgamjhpebmmjcaaGreatDoor
set_option maxRecDepth 100000
set_option maxHeartbeats 40000000
open Go.RowKit Flt
abbrev z0box:Obj:=.cells #[.int .i64 0,.int .i64 0] 92
abbrev spbox (s:Spn):Obj:=.cells #[.int .i64 s.off,.int .i64 s.len] 92
theorem removeS (w:World)(R g cap i:Nat)(l:List Spn)(f:FrP w R g cap l)(hi:i<l.length)(hb:l.length≤1000001):
  Calls Tryz.prog 120 #[.pointer (some ⟨R,0,none⟩),.int .i64 (i:Int)] w fun e w'=>e=.returned (l.getD i Spn.zero).agg∧FrP w' R g cap (l.take i++l.drop (i+1))∧Chg (fun b=>b=R∨b=g) w w':=by
 obtain⟨n,hn⟩:∃n,n=l.length:=⟨_,rfl⟩
 have HN:Hid _:=hn.symm
 rw[←hn] at hi hb
 obtain⟨s,hs⟩:∃s,s=l.getD i Spn.zero:=⟨_,rfl⟩
 have ka:=kept_alloc 0 0 w z0box
 have kb:=kept_alloc 0 0 (w.alloc z0box) (spbox s)
 have kk:=ka.trans kb
 have y0:=f.c0
 rw[←hn] at y0
 have hat:AtP w g (i*2) s:=by
  rcases f.row.ps.at_ with z|⟨ga,off,e,z1,z2,z3,z4⟩
  ·omega
  ·injection e with e
   injection e with e1 e2
   subst e1 e2
   have:=z4 i (by omega)
   rw[←hs,Nat.zero_add] at this
   exact this
 obtain⟨y1,y2⟩:=hat
 have HF:Hid _:=f.keepC (kk.chg (S:=fun _=>False)) (fun h=>h) (fun h=>h)
 have HK:Hid (Chg (fun b=>b=R∨b=g) w ((w.alloc z0box).alloc (spbox s))):=kk.chg
 have HA:Hid (AtP ((w.alloc z0box).alloc (spbox s)) w.heap.size 0 Spn.zero∧AtP ((w.alloc z0box).alloc (spbox s)) (w.heap.size+1) 0 s∧(∀o,((w.alloc z0box).alloc (spbox s)).frozen? ⟨w.heap.size,o,none⟩=false)∧w.heap.size+1<((w.alloc z0box).alloc (spbox s)).heap.size):=by
  have h1:XB (w.alloc z0box) w.heap.size Spn.zero:=xb_new w Spn.zero
  have h2:XB ((w.alloc z0box).alloc (spbox s)) (w.alloc z0box).heap.size s:=xb_new (w.alloc z0box) s
  have hz:(w.alloc z0box).heap.size=w.heap.size+1:=by simp
  refine⟨⟨?_,?_⟩,⟨?_,?_⟩,fun o=>?_,by simp⟩
  ·rw[kb.cell (p:=⟨w.heap.size,0,none⟩) (by rw[hz];exact Nat.lt_succ_self _) (by omega)];exact h1.at_ 0 _ rfl
  ·rw[kb.cell (p:=⟨w.heap.size,0+1,none⟩) (by rw[hz];exact Nat.lt_succ_self _) (by omega)];exact h1.at_ 1 _ rfl
  ·rw[←hz];exact h2.at_ 0 _ rfl
  ·rw[←hz];exact h2.at_ 1 _ rfl
  ·rw[kb.frozen (p:=⟨w.heap.size,o,none⟩) (by rw[hz];exact Nat.lt_succ_self _) (by omega)];exact h1.fr o
 have HLT:Hid (R<w.heap.size∧g<w.heap.size):=⟨f.lt,f.row.lt⟩
 have hR:=f.lt
 have hg:=f.row.lt
 have hi1:(0:Int)≤(i:Int):=by omega
 have hi2:(i:Int)<(n:Int):=by omega
 clear hn f ka kb kk
 rw[←hs]
 clear hs
 go_enter Tryz.func120,Tryz.ntmps120
 go_upto_region 2 with fail
 clear y0 y1 y2 hR hg
 generalize (w.alloc z0box).alloc (spbox s)=w1 at HF HK HA ⊢
 obtain⟨V,hV⟩:∃V,V=w.heap.size:=⟨_,rfl⟩
 rw[←hV] at HA HLT ⊢
 have HVW:Hid _:=hV
 clear hV
 obtain⟨k,hk⟩:∃k,n=k+1:=⟨n-1,by omega⟩
 have HD:=delS w1 g cap i (i+1) k n l HF.out.row HN.out hk rfl hi (by omega)
 rw[show((i+1:Nat):Int)=(i:Int)+1 from rfl] at HD
 have HDD:Hid _:=HD
 have HKN:Hid _:=hk
 have y0:=HF.out.c0
 rw[HN.out] at y0
 have hw1:IntKind.i64.wrap ((i:Int)+1)=(i:Int)+1:=by rw[IntKind.wrap_i64];omega
 clear HD hk
 go_wp2_with fail
 refine Calls.mono HDD.out ?_
 rintro e w2 ⟨rfl,r2,c2⟩
 have hl:(l.take i++l.drop (i+1)).length=k:=by
  have h2:=HN.out
  have h3:=HKN.out
  rw[List.length_append,List.length_take,List.length_drop]
  omega
 have F2:=HF.out.put c2 r2 (.inl rfl)
 rw[hl] at F2
 have HF2:Hid _:=F2
 have hne:=HF.out.ne
 have z0:w2.cell? ⟨R,0,none⟩=some (.slice (some ⟨g,0,none⟩) n cap):=(c2.cell (p:=⟨R,0,none⟩) HF.out.lt hne).trans y0
 have z1:w2.frozen? ⟨R,0,none⟩=false:=(c2.frozen (p:=⟨R,0,none⟩) HF.out.lt hne).trans HF.out.fr
 have C2:Chg (fun b=>b=R∨b=g) w1 (w2.setCell ⟨R,0,none⟩ (.slice (some ⟨g,0,none⟩) k cap)):=Chg.andThen (c2.mono fun b _ h=>.inr h) (chg_setCell w2 R 0 _ (.inl rfl))
 have HC2:Hid _:=C2
 clear C2 c2 r2 F2 hl y0 hne HDD
 go_upto_region 3 with fail
 generalize w2.setCell ⟨R,0,none⟩ (.slice (some ⟨g,0,none⟩) k cap)=w3 at HF2 HC2 ⊢
 clear z0 z1
 have ev:∀o,w3.cell? ⟨V,o,none⟩=w1.cell? ⟨V,o,none⟩:=fun o=>HC2.out.cell (p:=⟨V,o,none⟩) (by have:=HA.out.2.2.2;show V<_;omega) (by have:=HLT.out;show ¬(V=R∨V=g);omega)
 have ev1:∀o,w3.cell? ⟨V+1,o,none⟩=w1.cell? ⟨V+1,o,none⟩:=fun o=>HC2.out.cell (p:=⟨V+1,o,none⟩) (by have:=HA.out.2.2.2;show V+1<_;omega) (by have:=HLT.out;show ¬(V+1=R∨V+1=g);omega)
 have evf:∀o,w3.frozen? ⟨V,o,none⟩=w1.frozen? ⟨V,o,none⟩:=fun o=>HC2.out.frozen (p:=⟨V,o,none⟩) (by have:=HA.out.2.2.2;show V<_;omega) (by have:=HLT.out;show ¬(V=R∨V=g);omega)
 have a0:w3.cell? ⟨V,0,none⟩=some (.int .i64 0):=(ev 0).trans HA.out.1.1
 have a1:w3.cell? ⟨V,1,none⟩=some (.int .i64 0):=(ev 1).trans HA.out.1.2
 have b0:w3.cell? ⟨V+1,0,none⟩=some (.int .i64 s.off):=(ev1 0).trans HA.out.2.1.1
 have b1:w3.cell? ⟨V+1,1,none⟩=some (.int .i64 s.len):=(ev1 1).trans HA.out.2.1.2
 have f0:∀o,w3.frozen? ⟨V,o,none⟩=false:=fun o=>(evf o).trans (HA.out.2.2.1 o)
 have kV:Chg (fun b=>b=V) w3 ((w3.setCell ⟨V,0,none⟩ (.int .i64 s.off)).setCell ⟨V,1,none⟩ (.int .i64 s.len)):=Chg.andThen (chg_setCell w3 V 0 _ rfl) (chg_setCell _ V 1 _ rfl)
 have R1:Hid _:=HF2.out.keepC kV (by have:=HLT.out;show ¬(R=V);omega) (by have:=HLT.out;show ¬(g=V);omega)
 have R2:Hid (Chg (fun b=>b=R∨b=g) w ((w3.setCell ⟨V,0,none⟩ (.int .i64 s.off)).setCell ⟨V,1,none⟩ (.int .i64 s.len))):=Chg.new (Chg.andThen HK.out HC2.out) kV (fun i hi e=>by have:=HVW.out;omega)
 have v0:((w3.setCell ⟨V,0,none⟩ (.int .i64 s.off)).setCell ⟨V,1,none⟩ (.int .i64 s.len)).cell? ⟨V,0,none⟩=some (.int .i64 s.off):=by
  rw[cell_ne _ _ _ _ _ _ (.inr (by omega))];exact cell_eq _ _ _ _ _ a0
 have v1:((w3.setCell ⟨V,0,none⟩ (.int .i64 s.off)).setCell ⟨V,1,none⟩ (.int .i64 s.len)).cell? ⟨V,1,none⟩=some (.int .i64 s.len):=by
  refine cell_eq _ _ _ _ _ (?_:_=some (.int .i64 0))
  rw[cell_ne _ _ _ _ _ _ (.inr (by omega))];exact a1
 have HV0:Hid _:=v0
 have HV1:Hid _:=v1
 clear ev ev1 evf kV v0 v1 HF2 HC2
 go_wp2_with fail
 have v0:=HV0.out
 have v1:=HV1.out
 refine bodyPost_ret (v:=s.agg) (by simp[results,Tryz.results120,go_sem,v0,v1]) rfl ⟨rfl,R1.out,R2.out⟩
end Go.Proofs.YtgamjhpebmmjcaaGreatDoor
namespace Go.Proofs.YtgamjhpebmmjcaaGreatDoor
set_option maxRecDepth 100000
set_option maxHeartbeats 40000000
open Go.RowKit Flt
theorem runs_out {lo:Int}{s:Spn}:∀{p r:List Spn},RunsF lo (p++s::r)→RunsF lo (p++r)
 |[],r,h=>RunsF.mono (by have:=h.1;have:=h.2.1;omega) h.2.2
 |t::p,r,h=>⟨h.1,h.2.1,runs_out (p:=p) h.2.2⟩
theorem lbs_eq {l:List Spn}{x:Int}{i k:Nat}(h:LbS l x i)(hk:k≤l.length)(h1:∀j,j<k→(l.getD j Spn.zero).off<x)(h2:∀j,k≤j→j<l.length→x≤(l.getD j Spn.zero).off):i=k:=by
 rcases Nat.lt_trichotomy i k with c|c|c
 ·have a:=h1 i c
  have b:=h.hi i (Nat.le_refl _) (by omega)
  omega
 ·exact c
 ·have a:=h.lo k c
  have b:=h2 k (Nat.le_refl _) (by have:=h.le;omega)
  omega
abbrev n1box (n:Int):Obj:=.cells #[.int .i64 n] 3
structure ZB (W:World)(B:Nat):Prop where
 c0:W.cell? ⟨B,0,none⟩=some (.int .i64 0)
 c1:W.cell? ⟨B,1,none⟩=some (.int .i64 0)
 fr:∀o,W.frozen? ⟨B,o,none⟩=false
 lt:B<W.heap.size
theorem zb_new (w:World):ZB (w.alloc z0box) w.heap.size:=by
 have h:XB (w.alloc z0box) w.heap.size Spn.zero:=xb_new w Spn.zero
 exact⟨h.at_ 0 _ rfl,h.at_ 1 _ rfl,h.fr,h.lt⟩
theorem ZB.keepC {W W':World}{S:Nat→Prop}{B:Nat}(f:ZB W B)(k:Chg S W W')(hd:¬S B):ZB W' B:=
 ⟨by rw[k.cell (p:=⟨B,0,none⟩) f.lt hd];exact f.c0,by rw[k.cell (p:=⟨B,1,none⟩) f.lt hd];exact f.c1,fun o=>by rw[k.frozen (p:=⟨B,o,none⟩) f.lt hd];exact f.fr o,Nat.lt_of_lt_of_le f.lt k.size⟩
structure TK (w W4:World)(R g cap V B:Nat)(n:Int)(l':List Spn)(s:Spn):Prop where
 at_:AtP W4 B 0 s
 fr:FrP W4 R g cap l'
 chg:Chg (fun b=>b=R∨b=g) w W4
 nV:W4.cell? ⟨V,0,none⟩=some (.int .i64 n)
 zb:ZB W4 (V+1)
 ne:V+1<B∧R<V∧g<V∧w.heap.size=V
 lt:B<W4.heap.size
theorem tk_base {w w1 w3 W4:World}{R g cap V B:Nat}{n:Int}{l':List Spn}{s:Spn}(h0:Chg (fun b=>b=R∨b=g) w w1)(h1:Chg (fun b=>b=R∨b=g) w1 w3)(h2:Chg (fun b=>b=B) w3 W4)(F3:FrP w3 R g cap l')(hV:w1.cell? ⟨V,0,none⟩=some (.int .i64 n))(hz:ZB w1 (V+1))(hR:R<V)(hg:g<V)(hw:w.heap.size=V)(hB:w1.heap.size≤B)(hat:AtP W4 B 0 s)(hl:B<W4.heap.size):TK w W4 R g cap V B n l' s where
 at_:=hat
 fr:=F3.keepC h2 (by have:=hz.lt;show ¬(R=B);omega) (by have:=hz.lt;show ¬(g=B);omega)
 chg:=Chg.new (Chg.andThen h0 h1) h2 (fun i hi e=>by have:=hz.lt;omega)
 nV:=by
  have:=hz.lt
  have:=h1.size
  rw[h2.cell (p:=⟨V,0,none⟩) (by show V<_;omega) (by show ¬(V=B);omega),h1.cell (p:=⟨V,0,none⟩) (by show V<_;omega) (by show ¬(V=R∨V=g);omega)]
  exact hV
 zb:=by
  have:=hz.lt
  exact(hz.keepC h1 (by show ¬(V+1=R∨V+1=g);omega)).keepC h2 (by show ¬(V+1=B);omega)
 ne:=⟨by have:=hz.lt;omega,hR,hg,hw⟩
 lt:=hl
theorem put_box {W:World}{B:Nat}(z:ZB W B)(s:Spn):AtP ((W.setCell ⟨B,0,none⟩ (.int .i64 s.off)).setCell ⟨B,1,none⟩ (.int .i64 s.len)) B 0 s:=by
 refine⟨?_,?_⟩
 ·rw[cell_ne _ _ _ _ _ _ (.inr (by omega))];exact cell_eq _ _ _ _ _ z.c0
 ·refine cell_eq _ _ _ _ _ (?_:_=some (.int .i64 0))
  rw[cell_ne _ _ _ _ _ _ (.inr (by omega))];exact z.c1
theorem put_chg (W:World)(B:Nat)(s:Spn):Chg (fun b=>b=B) W ((W.setCell ⟨B,0,none⟩ (.int .i64 s.off)).setCell ⟨B,1,none⟩ (.int .i64 s.len)):=Chg.andThen (chg_setCell W B 0 _ rfl) (chg_setCell _ B 1 _ rfl)
def takeL (l:List Spn)(k:Nat)(n:Int):List Spn:=l.take k++cutS (l.getD k Spn.zero) n++l.drop (k+1)
theorem out_getD (l:List Spn)(k j:Nat):(l.take k++l.drop (k+1)).getD j Spn.zero=if j<k then l.getD j Spn.zero else l.getD (j+1) Spn.zero:=by
 rw[←List.eraseIdx_eq_take_drop_succ,List.getD_eq_getElem?_getD,List.getElem?_eraseIdx]
 split<;>simp[List.getD_eq_getElem?_getD]
structure TkP (l:List Spn)(k:Nat)(n:Int)(s:Spn):Prop where
 runs:RunsF 0 (l.take k++l.drop (k+1))
 len:(l.take k++l.drop (k+1)).length≤1000000
 off:0≤s.off∧n≤s.len∧s.off+s.len≤50000
 cut:n<s.len→∀i,LbS (l.take k++l.drop (k+1)) (s.off+n) i→(l.take k++l.drop (k+1)).take i++Spn.mk (s.off+n) (s.len-n)::(l.take k++l.drop (k+1)).drop i=takeL l k n
 all_:¬n<s.len→l.take k++l.drop (k+1)=takeL l k n
theorem take_pure {l:List Spn}{k:Nat}{n:Int}{s:Spn}(hs:RunsF 0 l)(hb:l.length≤1000000)(hn:1≤n)(ht:∀s∈l,s.off+s.len≤50000)(hk:firstFit n l=some k)(he:l.getD k Spn.zero=s):TkP l k n s:=by
 obtain⟨k1,k2,k3⟩:=fit_some hk
 rw[he] at k2
 have hmem:∀j,j<l.length→l.getD j Spn.zero∈l:=fun j hj=>by
  rw[List.getD_eq_getElem?_getD,List.getElem?_eq_getElem hj]
  exact List.getElem_mem _
 have hsm:s∈l:=by rw[←he];exact hmem k k1
 have hsp:l=l.take k++s::l.drop (k+1):=by
  have h1:l.drop k=s::l.drop (k+1):=by
   rw[List.drop_eq_getElem_cons k1]
   congr 1
   rw[←he,List.getD_eq_getElem?_getD,List.getElem?_eq_getElem k1]
   rfl
  rw[←h1,List.take_append_drop]
 have hm:=RunsF.mem hs s hsm
 have hlen:(l.take k++l.drop (k+1)).length=l.length-1:=by
  rw[List.length_append,List.length_take,List.length_drop]
  omega
 have hlk:(l.take k).length=k:=by rw[List.length_take];omega
 refine⟨runs_out (s:=s) (by rw[←hsp];exact hs),by omega,⟨hm.1,k2,ht s hsm⟩,fun hlt i hi=>?_,fun hlt=>?_⟩
 ·have hik:i=k:=by
   refine lbs_eq hi (by rw[hlen];omega) (fun j hj=>?_) (fun j h1 h2=>?_)
   ·rw[out_getD,if_pos hj]
    have a:=runs_lt hs hj k1
    have b:=RunsF.mem hs _ (hmem j (by omega))
    rw[he] at a
    omega
   ·rw[hlen] at h2
    rw[out_getD,if_neg (by omega)]
    have a:=runs_lt hs (show k<j+1 by omega) (show j+1<l.length by omega)
    rw[he] at a
    omega
  rw[hik,List.take_left' hlk,List.drop_left' hlk]
  unfold takeL cutS
  rw[he,if_pos hlt,List.append_assoc]
  rfl
 ·unfold takeL cutS
  rw[he,if_neg hlt,List.append_nil]
def TkO (w:World)(R g k:Nat)(l:List Spn)(n:Int)(e:Ending)(w':World):Prop:=∃g' cap',e=.returned (Spn.mk (l.getD k Spn.zero).off n).agg∧FrP w' R g' cap' (takeL l k n)∧Chg (fun b=>b=R∨b=g) w w'∧(g'=g∨w.heap.size≤g')
theorem takeP (w:World)(R g cap k:Nat)(l:List Spn)(n:Int)(f:FrP w R g cap l)(hs:RunsF 0 l)(hb:l.length≤1000000)(hn:1≤n)(ht:∀s∈l,s.off+s.len≤50000)(hk:firstFit n l=some k):
  Calls Tryz.prog 72 #[.pointer (some ⟨R,0,none⟩),.int .i64 n] w fun e w'=>TkO w R g k l n e w':=by
 obtain⟨k1,k2,k3⟩:=fit_some hk
 have ka:=kept_alloc 0 0 w (n1box n)
 have kb:=kept_alloc 0 0 (w.alloc (n1box n)) z0box
 have kk:=ka.trans kb
 have HF:Hid _:=f.keepC (kk.chg (S:=fun _=>False)) (fun h=>h) (fun h=>h)
 have HK:Hid (Chg (fun b=>b=R∨b=g) w ((w.alloc (n1box n)).alloc z0box)):=kk.chg
 have hz:(w.alloc (n1box n)).heap.size=w.heap.size+1:=by simp
 have HA:Hid (((w.alloc (n1box n)).alloc z0box).cell? ⟨w.heap.size,0,none⟩=some (.int .i64 n)∧AtP ((w.alloc (n1box n)).alloc z0box) (w.heap.size+1) 0 Spn.zero∧(∀o,((w.alloc (n1box n)).alloc z0box).frozen? ⟨w.heap.size+1,o,none⟩=false)∧w.heap.size+1<((w.alloc (n1box n)).alloc z0box).heap.size):=by
  have h2:XB ((w.alloc (n1box n)).alloc z0box) (w.alloc (n1box n)).heap.size Spn.zero:=xb_new (w.alloc (n1box n)) Spn.zero
  rw[hz] at h2
  refine⟨?_,⟨h2.at_ 0 _ rfl,h2.at_ 1 _ rfl⟩,fun o=>h2.fr o,by simp⟩
  rw[kb.cell (p:=⟨w.heap.size,0,none⟩) (by rw[hz];exact Nat.lt_succ_self _) (by omega)]
  rw[World.cell?_alloc_at _ _ w.heap.size 0 rfl]
  rfl
 have HLT:Hid (R<w.heap.size∧g<w.heap.size):=⟨f.lt,f.row.lt⟩
 have HS:Hid _:=hs
 have HKK:Hid _:=hk
 have HK1:Hid _:=k1
 have HTT:Hid _:=ht
 clear ka kb kk hz f hs hk k1 k2 k3 ht
 go_enter Tryz.func72,Tryz.ntmps72
 go_upto_region 2 with fail
 generalize (w.alloc (n1box n)).alloc z0box=w1 at HF HK HA ⊢
 obtain⟨V,hV⟩:∃V,V=w.heap.size:=⟨_,rfl⟩
 rw[←hV] at HA HLT ⊢
 have HVW:Hid _:=hV
 clear hV
 obtain⟨m,hm⟩:∃m,m=l.length:=⟨_,rfl⟩
 have HM:Hid _:=hm.symm
 have y0:=HF.out.c0
 rw[←hm] at y0 hb
 clear hm
 obtain⟨s,hse⟩:∃s,s=l.getD k Spn.zero:=⟨_,rfl⟩
 have HSE:Hid _:=hse.symm
 have HC1:Hid (∀W,Kept 0 0 w1 W→Calls Tryz.prog 121 #[.slice (some ⟨g,0,none⟩) m cap,.func (.func 119) #[] #[.pointer (some ⟨V,0,none⟩)]] W fun e w'=>e=.returned (.int .i64 (k:Int))∧Kept 0 0 W w'):=fun W kW=>
  indexF W g (g+1) (some ⟨g,0,none⟩) m cap l V n (Nat.lt_of_lt_of_le (by have:=HA.out.2.2.2;omega) kW.size) (by rw[kW.cell (p:=⟨V,0,none⟩) (by have:=HA.out.2.2.2;show V<_;omega) (by omega)];exact HA.out.1) (by have:=(HF.out.row.keepC (kW.chg (S:=fun _=>False)) (fun h=>h)).ps;rw[HM.out] at this;exact this) hb k HKK.out
 have HC2:Hid (∀W,Kept 0 0 w1 W→Calls Tryz.prog 120 #[.pointer (some ⟨R,0,none⟩),.int .i64 (k:Int)] W fun e w'=>e=.returned s.agg∧FrP w' R g cap (l.take k++l.drop (k+1))∧Chg (fun b=>b=R∨b=g) W w'):=fun W kW=>by
  rw[hse]
  exact removeS W R g cap k l (HF.out.keepC (kW.chg (S:=fun _=>False)) (fun h=>h) (fun h=>h)) HK1.out (by have:=HM.out;omega)
 clear hse
 have HG1:Hid (∀B,w1.heap.size≤B→¬(B=R∨B=g)):=fun B hB h=>by have:=HLT.out;have:=HA.out.2.2.2;omega
 have hR:=HF.out.lt
 first|(go_region_with (first
  |(go_at_call 121;first
   |(refine Calls.mono (HC1.out w1.drew (kept_drew w1)) ?_;rintro e w2 ⟨rfl,k2'⟩;have k2:=(kept_drew w1).trans k2')
   |(refine Calls.mono (HC1.out (w1.alloc z0box).drew ((kept_alloc 0 0 w1 z0box).trans (kept_drew _))) ?_;rintro e w2 ⟨rfl,k2'⟩;have k2:=((kept_alloc 0 0 w1 z0box).trans (kept_drew _)).trans k2';have zb:Hid (ZB w2 w1.heap.size):=(zb_new w1).keepC (((kept_drew _).trans k2').chg (S:=fun _=>False)) (fun h=>h)))
  |(go_at_call 120;first
   |(have zb':=zb.out;refine Calls.mono (HC2.out w2 k2) ?_;rintro e w3 ⟨rfl,F3,C3⟩;obtain⟨b0,b1,bf,bl⟩:=zb'.keepC C3 (HG1.out _ (Nat.le_refl _)))
   |(refine Calls.mono (HC2.out w2 k2) ?_;rintro e w3 ⟨rfl,F3,C3⟩)
   |(refine Calls.mono (HC2.out (w2.alloc z0box) (k2.trans (kept_alloc 0 0 w2 z0box))) ?_;rintro e w3 ⟨rfl,F3,C3⟩;obtain⟨b0,b1,bf,bl⟩:=(zb_new w2).keepC C3 (HG1.out _ k2.size)))))|fail
 all_goals
  have HZB:Hid (ZB w1 (V+1)):=⟨HA.out.2.1.1,HA.out.2.1.2,HA.out.2.2.1,HA.out.2.2.2⟩
  first
  |(obtain⟨W4,B,hW4,hB,HT⟩:∃W4 B,W4=w3.alloc (spbox s)∧B=w3.heap.size∧Hid (TK w W4 R g cap V B n (l.take k++l.drop (k+1)) s):=⟨_,_,rfl,rfl,tk_base HK.out (Chg.andThen k2.chg C3) (kept_alloc 0 0 w3 (spbox s)).chg F3 HA.out.1 HZB.out HLT.out.1 HLT.out.2 HVW.out.symm (Nat.le_trans k2.size C3.size) (by have h:XB (w3.alloc (spbox s)) w3.heap.size s:=xb_new w3 s;exact⟨h.at_ 0 _ rfl,h.at_ 1 _ rfl⟩) (by simp)⟩
    rw[←hW4,←hB]
    clear hW4 hB)
  |(obtain⟨B,hB⟩:∃B,B=w2.heap.size:=⟨_,rfl⟩
    rw[←hB] at b0 b1 bf bl ⊢
    obtain⟨W4,hW4,HT⟩:∃W4,W4=(w3.setCell ⟨B,0,none⟩ (.int .i64 s.off)).setCell ⟨B,1,none⟩ (.int .i64 s.len)∧Hid (TK w W4 R g cap V B n (l.take k++l.drop (k+1)) s):=⟨_,rfl,tk_base HK.out (Chg.andThen (k2.trans (kept_alloc 0 0 w2 z0box)).chg C3) (put_chg w3 B s) F3 HA.out.1 HZB.out HLT.out.1 HLT.out.2 HVW.out.symm (by rw[hB];exact k2.size) (put_box ⟨b0,b1,bf,bl⟩ s) (Nat.lt_of_lt_of_le bl (put_chg w3 B s).size)⟩
    rw[←hW4]
    clear hW4 hB b0 b1 bf bl)
  |(obtain⟨B,hB⟩:∃B,B=w1.heap.size:=⟨_,rfl⟩
    rw[←hB] at b0 b1 bf bl ⊢
    obtain⟨W4,hW4,HT⟩:∃W4,W4=(w3.setCell ⟨B,0,none⟩ (.int .i64 s.off)).setCell ⟨B,1,none⟩ (.int .i64 s.len)∧Hid (TK w W4 R g cap V B n (l.take k++l.drop (k+1)) s):=⟨_,rfl,tk_base HK.out (Chg.andThen k2.chg C3) (put_chg w3 B s) F3 HA.out.1 HZB.out HLT.out.1 HLT.out.2 HVW.out.symm (by rw[hB];exact Nat.le_refl _) (put_box ⟨b0,b1,bf,bl⟩ s) (Nat.lt_of_lt_of_le bl (put_chg w3 B s).size)⟩
    rw[←hW4]
    clear hW4 hB b0 b1 bf bl)
  clear F3 C3 HC1 HC2 hR y0 HF HK HA HZB HVW k2 k2'
  obtain⟨x0,x1⟩:=HT.out.at_
  rw[Nat.zero_add] at x1
  have v0:=HT.out.nV
  have HP:Hid _:=take_pure HS.out (by have:=HM.out;omega) hn HTT.out HKK.out HSE.out
  have hso:=HP.out.off
  have hw1:IntKind.i64.wrap (s.off+n)=s.off+n:=by rw[IntKind.wrap_i64];omega
  have hw2:IntKind.i64.wrap (s.len-n)=s.len-n:=by rw[IntKind.wrap_i64];omega
  clear hso
  by_cases hlt:n<s.len
  ·have HCI:Hid (∀W,Kept 0 0 W4 W→_):=fun W (kW:Kept 0 0 W4 W)=>insertS W R g cap (l.take k++l.drop (k+1)) (Spn.mk (s.off+n) (s.len-n)) (HT.out.fr.keepC (kW.chg (S:=fun _=>False)) (fun h=>h) (fun h=>h)) HP.out.runs HP.out.len
   go_wp2_with fail
   go_region_held3 (fun w'=>w'.cell? ⟨B,0,none⟩=some (.int .i64 s.off)∧w'.cell? ⟨B,1,none⟩=some (.int .i64 s.len)∧w'.cell? ⟨V,0,none⟩=some (.int .i64 n)) (go_keep)
    (first|(go_at_call 122;refine Calls.mono (HCI.out _ (kept_drew W4)) ?_;rintro e w5 ⟨i,g',cap',rfl,lb,F5,C5',e5⟩;have C5:Chg (fun b=>b=R∨b=g) W4 w5:=Chg.andThen (kept_drew W4).chg C5';have t0:w5.cell? ⟨B,0,none⟩=some (.int .i64 s.off):=(by rw[C5.cell (p:=⟨B,0,none⟩) HT.out.lt (by have:=HT.out.ne;show ¬(B=R∨B=g);omega)];exact x0);have t1:w5.cell? ⟨B,1,none⟩=some (.int .i64 s.len):=(by rw[C5.cell (p:=⟨B,1,none⟩) HT.out.lt (by have:=HT.out.ne;show ¬(B=R∨B=g);omega)];exact x1);have t2:w5.cell? ⟨V,0,none⟩=some (.int .i64 n):=(by rw[C5.cell (p:=⟨V,0,none⟩) (by have:=HT.out.zb.lt;show V<_;omega) (by have:=HT.out.ne;show ¬(V=R∨V=g);omega)];exact v0)))
   all_goals
    rw[HP.out.cut hlt i lb] at F5
    have HE5:Hid (g'=g∨w.heap.size≤g'):=e5.imp id (fun h=>Nat.le_trans HT.out.chg.size h)
    have hgV:Hid (¬(g'=V+1)):=fun e=>by
     have h1:=HT.out.ne
     have h2:=HT.out.lt
     rcases e5 with h|h
     ·omega
     ·have:W4.heap.size≤g':=h
      omega
    have hz5:Hid (V<w5.heap.size):=Nat.lt_of_lt_of_le (by have:=HT.out.zb.lt;omega) C5.size
    have ZV:ZB w5 (V+1):=HT.out.zb.keepC C5 (by have:=HT.out.ne;show ¬(V+1=R∨V+1=g);omega)
    obtain⟨z0,z1⟩:=put_box ZV (Spn.mk s.off n)
    have RF:Hid _:=F5.keepC (put_chg w5 (V+1) (Spn.mk s.off n)) (by have:=HT.out.ne;show ¬(R=V+1);omega) (by exact hgV.out)
    have RC:Hid (Chg (fun b=>b=R∨b=g) w _):=Chg.new (Chg.andThen HT.out.chg C5) (put_chg w5 (V+1) (Spn.mk s.off n)) (fun i hi e=>by have:=HT.out.ne;omega)
    have HZ0:Hid _:=z0
    have HZ1:Hid _:=z1
    obtain⟨u0,u1,uf,ul⟩:=ZV
    clear z0 z1 ul
    go_wp2_with fail
    have z0:=HZ0.out
    have z1:=HZ1.out
    simp only[Nat.zero_add] at z0 z1
    refine bodyPost_ret (v:=(Spn.mk s.off n).agg) (by simp[results,Tryz.results72,go_sem,z0,z1]) rfl (by unfold TkO;exact⟨g',cap',by rw[HSE.out],RF.out,RC.out,HE5.out⟩)
  ·have F5:=HT.out.fr
   rw[HP.out.all_ hlt] at F5
   have hz5:Hid (V<W4.heap.size):=Nat.lt_of_lt_of_le (by have:=HT.out.zb.lt;omega) (Nat.le_refl _)
   have ZV:ZB W4 (V+1):=HT.out.zb
   obtain⟨z0,z1⟩:=put_box ZV (Spn.mk s.off n)
   have RF:Hid _:=F5.keepC (put_chg W4 (V+1) (Spn.mk s.off n)) (by have:=HT.out.ne;show ¬(R=V+1);omega) (by have:=HT.out.ne;show ¬(g=V+1);omega)
   have RC:Hid (Chg (fun b=>b=R∨b=g) w _):=Chg.new HT.out.chg (put_chg W4 (V+1) (Spn.mk s.off n)) (fun i hi e=>by have:=HT.out.ne;omega)
   have HZ0:Hid _:=z0
   have HZ1:Hid _:=z1
   obtain⟨u0,u1,uf,ul⟩:=ZV
   clear z0 z1 ul
   go_wp2_with fail
   have z0:=HZ0.out
   have z1:=HZ1.out
   simp only[Nat.zero_add] at z0 z1
   refine bodyPost_ret (v:=(Spn.mk s.off n).agg) (by simp[results,Tryz.results72,go_sem,z0,z1]) rfl (by unfold TkO;exact⟨g,cap,by rw[HSE.out],RF.out,RC.out,.inl rfl⟩)
end Go.Proofs.YtgamjhpebmmjcaaGreatDoor
namespace Go.Proofs.YtgamjhpebmmjcaaGreatDoor
set_option maxRecDepth 100000
set_option maxHeartbeats 40000000
open Go.RowKit Flt
def AfO (w:World)(e:Ending)(w':World):Prop:=∃R g,e=.returned (.pointer (some ⟨R,0,none⟩))∧FrP w' R g 1 [Spn.mk 0 50000]∧Kept 0 0 w w'∧w.heap.size≤R∧w.heap.size≤g
theorem allFreeS (w:World):Calls Tryz.prog 70 #[] w fun e w'=>AfO w e w':=by
 have r1:FRw (w.alloc (.cells #[.int .i64 0,.int .i64 50000] 92)) w.heap.size 1 [Spn.mk 0 50000]:=frw_row w #[.int .i64 0,.int .i64 50000] [Spn.mk 0 50000] 1 (Nat.le_refl _) (by decide) rfl (fun j u hu=>by
  have hj:=(List.getElem?_eq_some_iff.1 hu).1
  have hj2:j<2:=hj
  rcases (by omega:j=0∨j=1) with rfl|rfl
  ·exact hu
  ·exact hu)
 have HR1:Hid _:=r1
 clear r1
 go_enter Tryz.func70,Tryz.ntmps70
 go_wp2_with fail
 go_ret
 unfold AfO
 have hz:(w.alloc (.cells #[.int .i64 0,.int .i64 50000] 92)).heap.size=w.heap.size+1:=by simp
 have kb:=kept_alloc 0 0 (w.alloc (.cells #[.int .i64 0,.int .i64 50000] 92)) (.cells #[.slice (some ⟨w.heap.size,0,none⟩) 1 1,.func (.func 116) #[] #[]] 196)
 refine⟨w.heap.size+1,w.heap.size,rfl,⟨?_,?_,?_,HR1.out.keepC (kb.chg (S:=fun _=>False)) (fun h=>h),by omega,by simp⟩,(kept_alloc 0 0 w _).trans kb,by omega,Nat.le_refl _⟩
 ·rw[World.cell?_alloc_at _ _ (w.heap.size+1) 0 hz.symm];rfl
 ·rw[World.cell?_alloc_at _ _ (w.heap.size+1) 1 hz.symm];rfl
 ·exact World.frozen?_alloc_at _ _ (w.heap.size+1) 0 hz.symm
end Go.Proofs.YtgamjhpebmmjcaaGreatDoor
namespace Go.Proofs.YtgamjhpebmmjcaaGreatDoor
set_option maxRecDepth 100000
set_option maxHeartbeats 40000000
open Go.RowKit Flt
theorem join_neg (w:World)(R:Nat)(i:Int)(hi:i<0):
  Calls Tryz.prog 123 #[.pointer (some ⟨R,0,none⟩),.int .i64 i] w fun e w'=>e=.returned (.tuple #[])∧Kept 0 0 w w':=by
 go_enter Tryz.func123,Tryz.ntmps123
 go_wp2_with fail
 go_quiet (fail)
 go_wp2_with fail
 refine bodyPost_ret (v:=.tuple #[]) (by simp[results,Tryz.results123,go_sem]) rfl ?_
 exact⟨rfl,kept_drewN 0 0 w _⟩
end Go.Proofs.YtgamjhpebmmjcaaGreatDoor
namespace Go.Proofs.YtgamjhpebmmjcaaGreatDoor
set_option maxRecDepth 100000
set_option maxHeartbeats 40000000
open Go.RowKit Flt
theorem FRw.len1 {W:World}{g cap:Nat}{pre post:List Spn}{y:Spn}(f:FRw W g cap (pre++y::post))(z:Int):FRw (W.setCell ⟨g,pre.length*2+1,none⟩ (.int .i64 z)) g cap (pre++⟨y.off,z⟩::post):=by
 have hx:(Spn.mk y.off z).cells.length=2:=rfl
 have hy:y.cells.length=2:=rfl
 have h:=f.core (pre.length*2+1) [.int .i64 z] (pre++⟨y.off,z⟩::post) (by have:=f.le;simp only[List.length_append,List.length_cons] at this ⊢;exact this) (by have:=f.le;simp only[List.length_append,List.length_cons,List.length_nil] at this ⊢;omega) (fun j u hu=>by
  rw[flatP_append] at hu ⊢
  by_cases hj:j<pre.length*2
  ·rw[List.getElem?_append_left (by rw[flatP_len];exact hj)] at hu
   exact .inr ⟨by omega,by rw[List.getElem?_append_left (by rw[flatP_len];exact hj)];exact hu⟩
  ·rw[List.getElem?_append_right (by rw[flatP_len];omega),flatP_len,flatP] at hu
   by_cases h2:j<pre.length*2+2
   ·rw[List.getElem?_append_left (by rw[hx];omega)] at hu
    rcases (by omega:j=pre.length*2∨j=pre.length*2+1) with e|e
    ·subst e
     refine .inr ⟨by simp only[List.length_cons,List.length_nil];omega,?_⟩
     rw[List.getElem?_append_right (by rw[flatP_len];omega),flatP_len,flatP,List.getElem?_append_left (by rw[hy];omega)]
     rw[Nat.sub_self] at hu ⊢
     exact hu
    ·subst e
     refine .inl ⟨by omega,by simp only[List.length_cons,List.length_nil];omega,?_⟩
     rw[show pre.length*2+1-pre.length*2=1 by omega] at hu
     rw[Nat.sub_self]
     exact hu
   ·rw[List.getElem?_append_right (by rw[hx];omega),hx] at hu
    refine .inr ⟨by simp only[List.length_cons,List.length_nil];omega,?_⟩
    rw[List.getElem?_append_right (by rw[flatP_len];omega),flatP_len,flatP,List.getElem?_append_right (by rw[hy];omega),hy]
    exact hu)
 exact h
theorem join_end (w:World)(R g cap i:Nat)(y0:w.cell? ⟨R,0,none⟩=some (.slice (some ⟨g,0,none⟩) (i+1) cap))(hb:i≤1000000):
  Calls Tryz.prog 123 #[.pointer (some ⟨R,0,none⟩),.int .i64 (i:Int)] w fun e w'=>e=.returned (.tuple #[])∧Kept 0 0 w w':=by
 have hd0:decide ((i:Int)<0)=false:=decide_eq_false (by omega)
 have hw1:IntKind.i64.wrap ((i:Int)+1)=(i:Int)+1:=by rw[IntKind.wrap_i64];omega
 go_enter Tryz.func123,Tryz.ntmps123
 go_wp2_with fail
 go_quiet (fail)
 go_wp2_with fail
 refine bodyPost_ret (v:=.tuple #[]) (by simp[results,Tryz.results123,go_sem]) rfl ?_
 exact⟨rfl,kept_drewN 0 0 w _⟩
theorem join_apart (w:World)(R g cap i n:Nat)(s t:Spn)(y0:w.cell? ⟨R,0,none⟩=some (.slice (some ⟨g,0,none⟩) n cap))(hi:i+1<n)(hb:n≤1000001)
  (y1:w.cell? ⟨g,i*2,none⟩=some (.int .i64 s.off)) (y2:w.cell? ⟨g,i*2+1,none⟩=some (.int .i64 s.len)) (y3:w.cell? ⟨g,(i+1)*2,none⟩=some (.int .i64 t.off)) (hR:R<w.heap.size) (hg:g<w.heap.size)
  (hs:-1000000≤s.off+s.len∧s.off+s.len≤1000000) (hne:¬s.off+s.len=t.off):
  Calls Tryz.prog 123 #[.pointer (some ⟨R,0,none⟩),.int .i64 (i:Int)] w fun e w'=>e=.returned (.tuple #[])∧Kept 0 0 w w':=by
 have hd0:decide ((i:Int)<0)=false:=decide_eq_false (by omega)
 have hd1:((i:Int)+1==(n:Int))=false:=by simp;omega
 have hd2:(s.off+s.len==t.off)=false:=by simp;exact hne
 have hw1:IntKind.i64.wrap ((i:Int)+1)=(i:Int)+1:=by rw[IntKind.wrap_i64];omega
 have hi1:(0:Int)≤(i:Int):=by omega
 have hi2:(i:Int)<(n:Int):=by omega
 have hi3:(0:Int)≤(i:Int)+1:=by omega
 have hi4:(i:Int)+1<(n:Int):=by omega
 have HE:Hid (∀W,_):=fun W=>spanEnd W s hs
 have HR:Hid _:=hR
 have HG:Hid _:=hg
 clear hR hg hs hi hb hne
 go_enter Tryz.func123,Tryz.ntmps123
 go_wp2_with fail
 go_region_held3 (fun w'=>w'.cell? ⟨R,0,none⟩=some (.slice (some ⟨g,0,none⟩) n cap)∧w'.cell? ⟨g,i*2,none⟩=some (.int .i64 s.off)∧w'.cell? ⟨g,i*2+1,none⟩=some (.int .i64 s.len)∧w'.cell? ⟨g,(i+1)*2,none⟩=some (.int .i64 t.off)) (go_keep)
  (first|(go_at_call 43;refine Calls.mono (HE.out _) ?_;rintro e w2 ⟨rfl,k2'⟩;have k2:=(kept_drew w).trans k2';have t0:w2.cell? ⟨R,0,none⟩=some (.slice (some ⟨g,0,none⟩) n cap):=(by rw[k2.cell (p:=⟨R,0,none⟩) HR.out (by omega)];exact y0);have t1:w2.cell? ⟨g,i*2,none⟩=some (.int .i64 s.off):=(by rw[k2.cell (p:=⟨g,i*2,none⟩) HG.out (by omega)];exact y1);have t2:w2.cell? ⟨g,i*2+1,none⟩=some (.int .i64 s.len):=(by rw[k2.cell (p:=⟨g,i*2+1,none⟩) HG.out (by omega)];exact y2);have t3:w2.cell? ⟨g,(i+1)*2,none⟩=some (.int .i64 t.off):=(by rw[k2.cell (p:=⟨g,(i+1)*2,none⟩) HG.out (by omega)];exact y3)))
 all_goals
  go_wp2_with fail
  refine bodyPost_ret (v:=.tuple #[]) (by simp[results,Tryz.results123,go_sem]) rfl ?_
  exact⟨rfl,k2⟩
end Go.Proofs.YtgamjhpebmmjcaaGreatDoor
namespace Go.Proofs.YtgamjhpebmmjcaaGreatDoor
set_option maxRecDepth 100000
set_option maxHeartbeats 40000000
open Go.RowKit Flt
theorem FL.congr {N:Int}{l:List Spn}{H H':Int→Prop}(f:FL N l H)(h:∀c,H c↔H' c):FL N l H':=
 ⟨f.runs,fun c h0 h1=>by rw[←h c];exact f.free c h0 h1,f.top⟩
def spanOf (vs:List Vl)(ps:List Int)(j:Nat):Spn:=⟨ps.getD j 0,(vs.getD j Vl.zero).len⟩
structure PlI (vs:List Vl)(ps:List Int)(l:List Spn)(T:Nat→Prop):Prop where
 fl:FL 50000 l (fun c=>∃j,T j∧inS (spanOf vs ps j) c)
 dis:∀j j',T j→T j'→j≠j'→∀c,inS (spanOf vs ps j) c→¬inS (spanOf vs ps j') c
theorem PlI.congr {vs:List Vl}{ps:List Int}{l:List Spn}{T T':Nat→Prop}(f:PlI vs ps l T)(h:∀j,T j↔T' j):PlI vs ps l T':=
 ⟨f.fl.congr (fun c=>by constructor<;>(rintro⟨j,h1,h2⟩;first|exact⟨j,(h j).1 h1,h2⟩|exact⟨j,(h j).2 h1,h2⟩)),fun j j' h1 h2=>f.dis j j' ((h j).2 h1) ((h j').2 h2)⟩
theorem pl_start (vs:List Vl)(ps:List Int):PlI vs ps [Spn.mk 0 50000] (fun _=>False) where
 fl:=⟨⟨Int.le_refl _,by decide,trivial⟩,fun c h0 h1=>⟨fun _=>⟨_,List.mem_singleton.2 rfl,h0,by show c<0+50000;omega⟩,fun _ h=>by obtain⟨_,h,_⟩:=h;exact h⟩,fun s hs=>by rw[List.mem_singleton] at hs;subst hs;decide⟩
 dis:=fun _ _ h=>h.elim
theorem pl_fix (vs:List Vl)(outs:List Int){i j:Nat}(h:j<i):∀n,i≤n→(plTo vs outs n).getD j 0=(plTo vs outs i).getD j 0:=fun n=>by
 induction n with
 |zero=>intro hi;omega
 |succ n ih=>
  intro hi
  by_cases e:i=n+1
  ·rw[e]
  ·rw[plTo_lt vs outs (show j<n by omega)];exact ih (by omega)
theorem runs_many {lo N:Int}:∀{l:List Spn},RunsF lo l→(∀s∈l,s.off+s.len≤N)→lo≤N→(l.length:Int)≤N-lo+1
 |[],_,_,h=>by simp;omega
 |s::r,f,ht,h=>by
  have h1:=ht s List.mem_cons_self
  have h2:=f.1
  have h3:=f.2.1
  have h4:=runs_many (lo:=s.off+s.len) (N:=N) (l:=r) (RunsF.mono (by omega) f.2.2) (fun t h=>ht t (List.mem_cons_of_mem _ h)) h1
  rw[List.length_cons]
  omega
theorem PlI.few {vs:List Vl}{ps:List Int}{l:List Spn}{T:Nat→Prop}(f:PlI vs ps l T):l.length≤60000:=by
 have:=runs_many f.fl.runs f.fl.top (by decide)
 omega
theorem pl_take {vs:List Vl}{outs:List Int}{n i:Nat}{l:List Spn}(hl:∀k,k<n→1≤(vs.getD k Vl.zero).len)(hs:sumL vs n≤50000)(hi:i<n)
  (f:PlI vs (plTo vs outs n) l (fun j=>j<i∧(i:Int)≤lastM vs outs j)):
  ∃k,firstFit (vs.getD i Vl.zero).len l=some k∧Spn.mk (l.getD k Spn.zero).off (vs.getD i Vl.zero).len=spanOf vs (plTo vs outs n) i∧PlI vs (plTo vs outs n) (takeL l k (vs.getD i Vl.zero).len) (fun j=>(j<i∧(i:Int)≤lastM vs outs j)∨j=i):=by
 obtain⟨a,ha,has,hfree,hleast⟩:=pl_least (outs:=outs) hl hs hi
 have hP:(plTo vs outs n).getD i 0=a:=by
  rw[pl_fix vs outs (Nat.lt_succ_self i) n hi,plTo_at];exact ha
 have hb:=pl_bound (outs:=outs) hl hs n (Nat.le_refl _) i hi
 have hsn:=sumL_mono hl (i:=i+1) (j:=n) (by omega) (by omega)
 have h1:=hl i hi
 obtain⟨m,hm⟩:=Int.eq_ofNat_of_zero_le (show 0≤(vs.getD i Vl.zero).len by omega)
 rw[hP] at hb
 rw[hm] at hfree hleast hb h1 ⊢
 have key:∀b:Nat,freeB vs outs (plTo vs outs i) i (m:Int) (b:Int)=true↔∀c:Int,(b:Int)≤c→c<b+m→¬∃j,(j<i∧(i:Int)≤lastM vs outs j)∧inS (spanOf vs (plTo vs outs n) j) c:=fun b=>by
  unfold freeB
  rw[List.all_eq_true]
  constructor
  ·intro h c c1 c2
   rintro⟨j,⟨j1,j2⟩,hc⟩
   have hj:=h j (List.mem_range.2 j1)
   unfold inS spanOf at hc
   simp only at hc
   rw[pl_fix vs outs j1 n (by omega)] at hc
   unfold hitB at hj
   rw[decide_eq_true j2,decide_eq_true (show(plTo vs outs i).getD j 0<(b:Int)+m by omega),decide_eq_true (show(b:Int)<(plTo vs outs i).getD j 0+(vs.getD j Vl.zero).len by omega)] at hj
   simp at hj
  ·intro h j hj
   have j1:=List.mem_range.1 hj
   cases hh:hitB vs outs (plTo vs outs i) i m b j with
   |false=>rfl
   |true=>
    exfalso
    unfold hitB at hh
    simp only[Bool.and_eq_true,decide_eq_true_eq] at hh
    obtain⟨e1,e2,e3⟩:=hh
    have hlj:=hl j (by omega)
    by_cases cc:(plTo vs outs i).getD j 0≤(b:Int)
    ·refine h b (Int.le_refl _) (by omega) ⟨j,⟨j1,e1⟩,?_⟩
     unfold inS spanOf
     simp only
     rw[pl_fix vs outs j1 n (by omega)]
     omega
    ·refine h ((plTo vs outs i).getD j 0) (by omega) (by omega) ⟨j,⟨j1,e1⟩,?_⟩
     unfold inS spanOf
     simp only
     rw[pl_fix vs outs j1 n (by omega)]
     omega
 have hfc:=(key a).1 hfree
 obtain⟨k,hk⟩:=fit_there f.fl (n:=m) (by omega) (a:=a) (by omega) (by omega) hfc
 obtain⟨q1,q2,q3⟩:=fit_some hk
 obtain⟨g1,g2⟩:=fit_least f.fl (n:=m) (by omega) hk
 have g3:=g2 a (by omega) (by omega) hfc
 have hmem:l.getD k Spn.zero∈l:=by
  rw[List.getD_eq_getElem?_getD,List.getElem?_eq_getElem q1];exact List.getElem_mem _
 have hrm:=RunsF.mem f.fl.runs _ hmem
 obtain⟨o,ho⟩:=Int.eq_ofNat_of_zero_le hrm.1
 have hoa:o=a:=by
  rw[ho] at g1 g3
  have g4:=(key o).2 g1
  rcases Nat.lt_or_ge o a with h|h
  ·rw[hleast o h] at g4;cases g4
  ·omega
 subst hoa
 refine⟨k,hk,?_,?_⟩
 ·unfold spanOf
  rw[hP,ho,hm]
 ·obtain⟨s,hse⟩:∃s,s=l.getD k Spn.zero:=⟨_,rfl⟩
  have hsp:l=l.take k++s::l.drop (k+1):=by
   have h1:l.drop k=s::l.drop (k+1):=by
    rw[List.drop_eq_getElem_cons q1]
    congr 1
    rw[hse,List.getD_eq_getElem?_getD,List.getElem?_eq_getElem q1]
    rfl
   rw[←h1,List.take_append_drop]
  have f':=f.fl
  rw[hsp] at f'
  rw[←hse] at ho q2
  have ft:=fl_take f' (n:=m) (by omega) q2
  have heq:∀c,inS (spanOf vs (plTo vs outs n) i) c↔s.off≤c∧c<s.off+m:=fun c=>by
   unfold inS spanOf
   simp only
   rw[hP,ho,hm]
  refine⟨?_,?_⟩
  ·unfold takeL
   rw[←hse]
   refine FL.congr ft (fun c=>?_)
   constructor
   ·rintro (⟨j,hj,hc⟩|hc)
    ·exact⟨j,.inl hj,hc⟩
    ·exact⟨i,.inr rfl,(heq c).2 hc⟩
   ·rintro⟨j,hj|rfl,hc⟩
    ·exact .inl ⟨j,hj,hc⟩
    ·exact .inr ((heq c).1 hc)
  ·have hno:∀j,(j<i∧(i:Int)≤lastM vs outs j)→∀c,inS (spanOf vs (plTo vs outs n) j) c→¬inS (spanOf vs (plTo vs outs n) i) c:=fun j hj c hc hi'=>by
    have h2:=(heq c).1 hi'
    rw[ho] at h2
    exact hfc c h2.1 h2.2 ⟨j,hj,hc⟩
   rintro j j' (hj|rfl) (hj'|rfl) hne c hc hc'
   ·exact f.dis j j' hj hj' hne c hc hc'
   ·exact hno j hj c hc hc'
   ·exact hno j' hj' c hc' hc
   ·exact hne rfl
theorem pl_rel {vs:List Vl}{ps:List Int}{p r:List Spn}{T:Nat→Prop}{x:Spn}{j0:Nat}(f:PlI vs ps (p++r) T)(hj:T j0)(hx:spanOf vs ps j0=x)(h1:1≤x.len)(h0:0≤x.off)(hN:x.off+x.len≤50000)(hp:∀s∈p,s.off<x.off)(hr:∀s∈r,x.off≤s.off):
  PlI vs ps (relF p x r) (fun j=>T j∧j≠j0):=by
 have h:=fl_release f.fl h1 h0 hN (fun c hc=>⟨j0,hj,by rw[hx];exact hc⟩) hp hr
 refine⟨FL.congr h fun c=>?_,fun j j' h1 h2=>f.dis j j' h1.1 h2.1⟩
 constructor
 ·rintro⟨⟨j,h1,h2⟩,h3⟩
  refine⟨j,⟨h1,fun e=>h3 ?_⟩,h2⟩
  rw[←hx,←e];exact h2
 ·rintro⟨j,⟨h1,h2⟩,h3⟩
  refine⟨⟨j,h1,h3⟩,fun h4=>?_⟩
  rw[←hx] at h4
  exact f.dis j j0 h1 hj h2 c h3 h4
def effT (vs:List Vl)(i j:Nat):Int:=if lastTo vs j (i-(j+1))=-1 then (j:Int) else lastTo vs j (i-(j+1))
def doneL (vs:List Vl)(outs:List Int)(n b:Nat):List Int:=((List.range n).filter fun j=>effT vs vs.length j==(b:Int)&&!isO outs j).map fun (j:Nat)=>(j:Int)
theorem lastTo_ge (vs:List Vl)(j:Nat):∀m,lastTo vs j m=-1∨((j:Int)+1≤lastTo vs j m∧lastTo vs j m≤(j:Int)+m)
 |0=>.inl rfl
 |m+1=>by
  unfold lastTo
  split
  ·exact .inr (by omega)
  ·rcases lastTo_ge vs j m with h|h
   ·exact .inl h
   ·exact .inr (by omega)
theorem eff_ge (vs:List Vl)(i j:Nat)(h:j<i):(j:Int)≤effT vs i j∧effT vs i j<i:=by
 unfold effT
 rcases lastTo_ge vs j (i-(j+1)) with e|e
 ·rw[if_pos e];omega
 ·rw[if_neg (by omega)];omega
theorem held_next {vs:List Vl}{outs:List Int}{i:Nat}(hi:i<vs.length)(j:Nat):
  (((j<i∧(i:Int)≤lastM vs outs j)∨j=i)∧¬(effT vs vs.length j=(i:Int)∧isO outs j=false))↔(j<i+1∧((i+1:Nat):Int)≤lastM vs outs j):=by
 have hge:=lastTo_ge vs j (vs.length-(j+1))
 unfold lastM effT
 generalize lastTo vs j (vs.length-(j+1))=L at hge
 cases ho:isO outs j
 ·simp only[Bool.false_eq_true,if_false,and_true]
  rcases hge with e|e
  ·rw[if_pos e];omega
  ·rw[if_neg (by omega)];omega
 ·simp only[if_true,Bool.true_eq_false,and_false,not_false_eq_true,and_true]
  omega
end Go.Proofs.YtgamjhpebmmjcaaGreatDoor
