import Derived.Test.YtgamjhpebmmjcaaGreatDoorP32
import Derived.Deep.RegionWith
import Derived.Deep.CutRange
import Derived.Deep.CutBlock
import Derived.Deep.LoopGhost
namespace Go.Proofs.YtgamjhpebmmjcaaGreatDoor
set_option maxRecDepth 100000
set_option maxHeartbeats 40000000
open Go.RowKit Flt
attribute [local go_sem] alloc_drewN setCell_drewN run_store_float fld0 fld1 fld2 mkF
def sgnM (s:List UInt8):Int:=if s=[43] then 2 else if s=[45] then 3 else -1
theorem sgnMS (s:List UInt8)(w:World):Calls Tryz.prog 137 #[strL s] w fun e w'=>e=.returned (.int .i64 (sgnM s))∧w'=w:=by
 unfold sgnM
 cases c:(s==[43])
 ·rw[if_neg (ne_of_beq_false c)]
  cases c2:(s==[45])
  ·rw[if_neg (ne_of_beq_false c2)]
   go_enter Tryz.func137,Tryz.ntmps137
   go_wp2
   go_ret
   exact⟨rfl,rfl⟩
  ·rw[if_pos (eq_of_beq c2)]
   go_enter Tryz.func137,Tryz.ntmps137
   go_wp2
   go_ret
   exact⟨rfl,rfl⟩
 ·rw[if_pos (eq_of_beq c)]
  go_enter Tryz.func137,Tryz.ntmps137
  go_wp2
  go_ret
  exact⟨rfl,rfl⟩
theorem sgnM_op {s:List UInt8}(h:s=[43]∨s=[45]):sgnM s=opOf s∧sgnM s≠-1:=by
 rcases h with rfl|rfl<;>decide
theorem sgnM_no {s:List UInt8}(h:¬(s=[43]∨s=[45])):sgnM s=-1:=by
 unfold sgnM
 rw[if_neg (fun e=>h (.inl e)),if_neg (fun e=>h (.inr e))]
theorem pMORETERMS_yes {n:Nat}{k:Tok}{us:List Tok}(h:k.sym=[43]∨k.sym=[45])(r:List (List UInt8)):wrongM n (k::us) (pMORETERMS::r)=wrongM n us (pTERM::pMORETERMS::r):=by
 rw[wrong_part (by decide)]
 have er:ruleM pMORETERMS (hdS (k::us))=[k.sym,pTERM,pMORETERMS]:=by
  show ruleM pMORETERMS k.sym=_
  rcases h with c|c<;>rw[c]<;>rfl
 rw[er]
 exact wrong_yes (by rcases h with c|c<;>rw[c]<;>decide) rfl (pTERM::pMORETERMS::r)
theorem pMORETERMS_no {n:Nat}{ts:List Tok}(h:¬(hdS ts=[43]∨hdS ts=[45]))(r:List (List UInt8)):wrongM n ts (pMORETERMS::r)=wrongM n ts r:=by
 rw[wrong_part (by decide)]
 have er:ruleM pMORETERMS (hdS ts)=[]:=by
  unfold ruleM
  rw[if_neg (by decide),if_neg (by decide),if_neg (by decide),if_neg (by decide),if_pos rfl,if_neg h]
 rw[er]
 rfl
theorem chainT {E:Pe}{n:Nat}(hM:XC E 136 [pTERM] 1 n){w:World}{ts:List Tok}(f:Ps E w ts)(hlen:ts.length<n):Calls Tryz.prog 135 #[.pointer (some ⟨E.P,0,none⟩),.func (.func 136) #[.pointer (some ⟨E.P,0,none⟩)] #[],.func (.func 137) #[] #[]] w (Ot E w ts [pTERM,pMORETERMS] (GN w 2)):=by
 have HM:Hid _:=hM
 have HF:Hid (Ps E w ts):=f
 have HL:Hid (ts.length<n):=hlen
 have HPw:Hid (E.P<w.heap.size):=f.nw.1
 clear hM f hlen
 go_enter Tryz.func135,Tryz.ntmps135
 go_wp2_with (go_at_call 136;refine Calls.mono (HM.out w ts HF.out HL.out) ?_;rintro e w1 (⟨us,ws,v,rfl,hsp,hw,hT,hC,e1,hPr1,hNd1⟩|⟨p,rfl,hw,hC⟩);rotate_left;exact And.intro rfl (Ot.bad (fun r=>rfl) (ch_refl E w) (fun r=>hw.out (pMORETERMS::r)) hC))
 go_loopg [7] ws.length (fun m v W=>∃(e:Ex) (us ws:List Tok),ws.length=m∧Hid (ts=us++ws)∧Hid (Pr 2 [e] us)∧Hid (Nd W (Fr w.heap.size) v e)∧Hid (Ps E W ws)∧Hid (Ch E w W)∧Hid (∀r,wrongM E.t.length ts (pTERM::pMORETERMS::r)=wrongM E.t.length ws (pMORETERMS::r)))
 case atStart=>exact⟨e1,us,ws,rfl,hsp,.up12 hPr1,hNd1,hT,hC,fun r=>hw.out (pMORETERMS::r)⟩
 case round=>
  clear hsp hw hT hC hPr1 hNd1
  obtain⟨e2,us2,ws2,hm,hsp,hPr,hNd,hPs,hCh,hWr⟩:=hrel
  have hcl:∀k∈ws2,TkC k:=by obtain⟨i,h⟩:=hPs.out;exact h.cl
  have HPk:Hid _:=peekS hPs.out
  have hX:(hdP E.t.length ws2).text=[43]↔hdS ws2=[43]:=hd_text hcl (by decide)
  have hY:(hdP E.t.length ws2).text=[45]↔hdS ws2=[45]:=hd_text hcl (by decide)
  obtain⟨T2,x2,hv⟩:=hNd.out.iface
  subst hv
  by_cases c:hdS ws2=[43]∨hdS ws2=[45]
  ·obtain⟨k,us3,hws⟩:∃k us3,ws2=k::us3:=by
    rcases c with c|c
    ·obtain⟨k,us3,e,_⟩:=hd_cons c (by decide);exact⟨k,us3,e⟩
    ·obtain⟨k,us3,e,_⟩:=hd_cons c (by decide);exact⟨k,us3,e⟩
   subst hws
   have hk:k.sym=[43]∨k.sym=[45]:=c
   have htx:(cvT k).text=k.sym:=by
    rcases c with c|c
    ·exact(hX.2 c).trans c.symm
    ·exact(hY.2 c).trans c.symm
   have HO:Hid (∀W,Calls Tryz.prog 137 #[strL (cvT k).text] W fun e w'=>e=.returned (.int .i64 (opOf k.sym))∧w'=W):=fun W=>by
    rw[←(sgnM_op hk).1,htx]
    exact sgnMS _ W
   have ho:opOf k.sym≠-1:=by rw[←(sgnM_op hk).1];exact(sgnM_op hk).2
   have HT:Hid (∀W,Kept 0 0 wr W→_):=fun W kk=>takeS (hPs.out.keep kk) (by rcases hk with h|h<;>rw[h]<;>decide)
   have HW:Hid (∀r,wrongM E.t.length ts (pTERM::pMORETERMS::r)=wrongM E.t.length us3 (pTERM::pMORETERMS::r)):=fun r=>(hWr.out r).trans (pMORETERMS_yes hk r)
   have HM3:Hid (∀W,Ps E W us3→_):=fun W g=>HM.out W us3 g (by have:=HL.out;rw[hsp.out] at this;simp at this;omega)
   have HA:Hid ((cvT k).at_=k.pos):=cv_at k
   have HKs:Hid _:=hk
   replace HPk:Hid (Calls Tryz.prog 57 #[.pointer (some ⟨E.P,0,none⟩)] wr fun e w'=>e=.returned (.agg #[.int .i64 (cvT k).kind,strL (cvT k).text,.int .i64 ((cvT k).at_:Int)])∧Kept 0 0 wr w'):=HPk.out
   have hmm:us3.length<gk:=by simp at hm;omega
   clear hcl hX hY c hk htx hm
   generalize hov:opOf k.sym=ov at*
   have HOv:Hid _:=hov
   clear hov
   go_upto_block 1 with (first|(go_at_call 57;refine Calls.mono HPk.out ?_;rintro e w2 ⟨rfl,k2⟩)|(go_at_call 137;refine Calls.mono (HO.out _) ?_;rintro e w3 ⟨rfl,hw3⟩;obtain rfl:=hw3.symm))
   go_cut [7] from 11 to 31 (fun v W=>∃us5 ws5 e5,Hid (us3=us5++ws5)∧Hid (∀r,wrongM E.t.length us3 (pTERM::r)=wrongM E.t.length ws5 r)∧Hid (Ps E W ws5)∧Hid (Ch E wr W)∧Hid (Pr 1 [e5] us5)∧Hid (Nd W (Fr w.heap.size) v (.bin k e2 e5)))
   case first=>
    go_upto_region 4 with (go_at_call 96;refine Calls.mono (HT.out _ k2) ?_;rintro e w3 ⟨rfl,hT,hC⟩;unfold tkV)
    have HC3:Hid (Ch E wr w3):=(k2.chg).andThen hC
    have HT3:Hid (Ps E w3 us3):=hT
    have hb2:∀w5,Ch E (w3.alloc (.cells #[.int .i64 (cvT k).kind,strL (cvT k).text,.int .i64 ((cvT k).at_:Int)] 106)) w5→w5.cell? ⟨w3.heap.size,1,none⟩=some (strL (cvT k).text)∧w5.cell? ⟨w3.heap.size,2,none⟩=some (.int .i64 ((cvT k).at_:Int))∧w3.heap.size<w5.heap.size:=fun w5 c=>by have h:=box_at w3 w5 _ _ c (fun e=>by have:=hT.nw.1;omega);exact⟨h.1 1,h.1 2,h.2.2⟩
    have HB2:Hid _:=hb2
    obtain⟨s1,s2,s3⟩:=hb2 _ (ch_refl E _)
    have HKa:Hid _:=kept_alloc 0 0 w3 (.cells #[.int .i64 (cvT k).kind,strL (cvT k).text,.int .i64 ((cvT k).at_:Int)] 106)
    clear hb2 hC k2 HT HPk hT
    generalize w3.alloc (.cells #[.int .i64 (cvT k).kind,strL (cvT k).text,.int .i64 ((cvT k).at_:Int)] 106)=w4 at*
    go_region_with (first|(go_at_call 136;refine Calls.mono (HM3.out _ ((HT3.out.keep HKa.out).keep (kept_drew _))) ?_;rintro e w5 (⟨us5,ws5,v,rfl,hsp5,hw5,hT5,hC5,e5,hPr5,hNd5⟩|⟨p,rfl,hw5,hC5⟩);rotate_left;exact And.intro rfl (Ot.bad (ts:=ts) (st:=[pTERM,pMORETERMS]) (st2:=[pTERM,pMORETERMS]) HW.out ((hCh.out.andThen HC3.out).andThen (HKa.out.trans (kept_drew _)).chg) (fun r=>hw5.out (pMORETERMS::r)) hC5);obtain⟨q1,q2,q3⟩:=HB2.out w5 (((kept_drew _).chg).andThen hC5);obtain⟨T5,x5,rfl⟩:=hNd5.iface)|(go_at_call 137;refine Calls.mono (HO.out _) ?_;rintro e w6 ⟨rfl,hw6⟩;obtain rfl:=hw6.symm))
    all_goals
     have ka:=kept_alloc 0 0 w5 (.cells #[.iface T2 x2,.iface T5 x5] 167)
     have HC6:Ch E wr w5:=HC3.out.andThen ((HKa.out.trans (kept_drew _)).chg.andThen hC5)
     have HN:Hid (Nd (w5.alloc (.cells #[.iface T2 x2,.iface T5 x5] 167)) (Fr w.heap.size) (.iface 249 (.agg #[.int .i64 (k.pos:Int),.slice (some ⟨w5.heap.size,0,none⟩) 2 2,.int .i64 (opOf k.sym)])) (.bin k e2 e5)):=.bin (rw_new w5 w.heap.size [.iface T2 x2,.iface T5 x5] (Nat.le_trans hCh.out.size HC6.size) (by simp)) ((hNd.out.ch HC6 HPw.out).keep ka) ((hNd5.keep ka).fr (Nat.le_trans hCh.out.size (Nat.le_trans HC3.out.size (HKa.out.trans (kept_drew _)).size)))
     rw[←HA.out,HOv.out] at HN
     have HP5:Hid _:=hT5.keep ka
     have HC5:Hid (Ch E wr _):=HC6.andThen ka.chg
     have HPr5:Hid _:=hPr5
     clear hNd5 hC5 hT5 ka hPr5 HC6
     go_wp2_with fail
     go_meet
     exact⟨us5,ws5,e5,hsp5,hw5,HP5,HC5,HPr5,HN⟩
   case rest=>
    obtain⟨us5,ws5,e5,hsp5,hw5,hPs5,hC5,hPr5,hNd5⟩:=hcut
    go_wp2
    go_roundg ws5.length
    case measure=>have:=hsp5.out;rw[this] at hmm;simp at hmm;omega
    case rel=>exact⟨.bin k e2 e5,us2++k::us5,ws5,rfl,by show _=_;rw[hsp.out,hsp5.out];simp,.add hPr.out HKs.out hPr5.out,hNd5,hPs5,hCh.out.andThen hC5.out,fun r=>(HW.out r).trans (hw5.out (pMORETERMS::r))⟩
  ·have hno:sgnM (hdP E.t.length ws2).text=-1:=sgnM_no (fun h=>c (h.imp hX.1 hY.1))
   have HO:Hid (∀W,Calls Tryz.prog 137 #[strL (hdP E.t.length ws2).text] W fun e w'=>e=.returned (.int .i64 (-1))∧w'=W):=fun W=>by
    rw[←hno]
    exact sgnMS _ W
   have HW:Hid (∀r,wrongM E.t.length ts (pTERM::pMORETERMS::r)=wrongM E.t.length ws2 r):=fun r=>(hWr.out r).trans (pMORETERMS_no c r)
   clear hno hX hY hcl c
   generalize hdP E.t.length ws2=kv at*
   go_wp2_with (first|(go_at_call 57;refine Calls.mono HPk.out ?_;rintro e w2 ⟨rfl,k2⟩;unfold tkV)|(go_at_call 137;refine Calls.mono (HO.out _) ?_;rintro e w3 ⟨rfl,hw3⟩;obtain rfl:=hw3.symm))
   go_ret
   exact .inl ⟨us2,ws2,_,rfl,hsp,HW,hPs.out.keep k2,hCh.out.andThen k2.chg,e2,hPr.out,hNd.out.keep k2⟩
end Go.Proofs.YtgamjhpebmmjcaaGreatDoor
