import Derived.Test.YtgamjhpebmmjcaaGreatDoorP35
namespace Go.Proofs.YtgamjhpebmmjcaaGreatDoor
set_option maxRecDepth 100000
set_option maxHeartbeats 40000000
open Go.RowKit Flt
attribute [local go_sem] alloc_drewN setCell_drewN run_store_float fld0 fld1 fld2 mkF
theorem call_yes {n:Nat}{ts:List Tok}(h:hdS ts=[40])(r:List (List UInt8)):wrongM n ts (pCALL::r)=wrongM n ts ([40]::pARGS::[41]::r):=by
 rw[wrong_part (by decide),h]
 rfl
theorem call_no {n:Nat}{ts:List Tok}(h:hdS ts≠[40])(r:List (List UInt8)):wrongM n ts (pCALL::r)=wrongM n ts r:=by
 rw[wrong_part (by decide)]
 have er:ruleM pCALL (hdS ts)=[]:=by
  unfold ruleM
  rw[if_neg (by decide),if_neg (by decide),if_neg (by decide),if_neg (by decide),if_neg (by decide),if_neg (by decide),if_neg (by decide),if_pos rfl,if_neg h]
 rw[er]
 rfl
theorem Rw.form {W:World}{M:Nat→Prop}{sl:Value}{vs:List Value}(f:Rw W M sl vs):∃a cap,sl=.slice a vs.length cap:=by
 rcases f.1.2 with⟨h,h0⟩|⟨g,cap,cur,h1,_⟩
 ·exact⟨none,0,by rw[h,h0]⟩
 ·exact⟨_,cap,h1⟩
theorem nameOrCallS {E:Pe}{n:Nat}(hX:XC E 97 [pEXPR] 2 n){w:World}{k:Tok}{us0:List Tok}(f:Ps E w (k::us0))(hlen:us0.length<n+1)(hk:k.sym=sName):Calls Tryz.prog 173 #[.pointer (some ⟨E.P,0,none⟩)] w (Ot E w (k::us0) [pUNARY] (GN w 0)):=by
 have HL:Hid (∀W,Ps E W us0→_):=fun W g=>listedS hX (w:=W) g hlen
 have HPw:Hid (E.P<w.heap.size):=f.nw.1
 have HT:Hid _:=takeS f (by rw[hk];decide)
 have HW0:Hid (∀r,wrongM E.t.length (k::us0) ([pUNARY]++r)=wrongM E.t.length us0 (pCALL::r)):=fun r=>by
  show wrongM _ _ (pUNARY::r)=_
  rw[wrong_un,show hdS (k::us0)=sName from hk]
  exact wrong_yes (by decide) hk (pCALL::r)
 have HA:Hid ((cvT k).at_=k.pos):=cv_at k
 have HK:Hid (k.sym=sName):=hk
 have hcl:∀x∈us0,TkC x:=by obtain⟨i,h⟩:=f;exact fun x hx=>h.cl x (List.mem_cons_of_mem _ hx)
 have hX1:(hdP E.t.length us0).text=[40]↔hdS us0=[40]:=hd_text hcl (by decide)
 clear hX f hlen hk hcl
 go_enter Tryz.func173,Tryz.ntmps173
 go_upto_region 2 with (go_at_call 96;refine Calls.mono HT.out ?_;rintro e w1 ⟨rfl,hT1,hC1⟩;unfold tkV)
 have ka:=kept_alloc 0 0 w1 (.cells #[.int .i64 (cvT k).kind,strL (cvT k).text,.int .i64 ((cvT k).at_:Int)] 106)
 have HPs:Hid (Ps E (w1.alloc (.cells #[.int .i64 (cvT k).kind,strL (cvT k).text,.int .i64 ((cvT k).at_:Int)] 106)) us0):=hT1.keep ka
 have HC:Hid (Ch E w (w1.alloc (.cells #[.int .i64 (cvT k).kind,strL (cvT k).text,.int .i64 ((cvT k).at_:Int)] 106))):=hC1.andThen ka.chg
 have HB:Hid (∀w5,Ch E (w1.alloc (.cells #[.int .i64 (cvT k).kind,strL (cvT k).text,.int .i64 ((cvT k).at_:Int)] 106)) w5→w5.cell? ⟨w1.heap.size,0,none⟩=some (.int .i64 (cvT k).kind)∧w5.cell? ⟨w1.heap.size,1,none⟩=some (strL (cvT k).text)∧w5.cell? ⟨w1.heap.size,2,none⟩=some (.int .i64 ((cvT k).at_:Int))∧w1.heap.size<w5.heap.size):=fun w5 c=>by have h:=box_at w1 w5 _ _ c (fun e=>by have:=hT1.nw.1;omega);exact⟨h.1 0,h.1 1,h.1 2,h.2.2⟩
 clear hT1 hC1 ka HT
 generalize w1.alloc (.cells #[.int .i64 (cvT k).kind,strL (cvT k).text,.int .i64 ((cvT k).at_:Int)] 106)=w2 at*
 generalize w1.heap.size=bb at*
 have HPk:Hid _:=peekS HPs.out
 by_cases c:hdS us0=[40]
 ·have htx:(hdP E.t.length us0).text=[40]:=hX1.2 c
  have HW:Hid (∀r,wrongM E.t.length (k::us0) ([pUNARY]++r)=wrongM E.t.length us0 ([[40],pARGS,[41]]++r)):=fun r=>(HW0.out r).trans (call_yes c r)
  replace HPk:Hid (Calls Tryz.prog 57 #[.pointer (some ⟨E.P,0,none⟩)] w2 fun e w'=>e=.returned (.agg #[.int .i64 (hdP E.t.length us0).kind,strL (hdP E.t.length us0).text,.int .i64 ((hdP E.t.length us0).at_:Int)])∧Kept 0 0 w2 w'):=HPk.out
  rw[htx] at HPk
  clear hX1 c htx
  go_upto_region 4 with (go_at_call 57;refine Calls.mono HPk.out ?_;rintro e w3 ⟨rfl,k3⟩)
  obtain⟨s0,s1,s2,s3⟩:=HB.out w3 k3.chg
  have HPs3:Hid (Ps E w3 us0):=HPs.out.keep k3
  have HC3:Hid (Ch E w w3):=HC.out.andThen k3.chg
  have HB3:Hid (∀w5,Ch E w3 w5→_):=fun w5 c=>HB.out w5 (k3.chg.andThen c)
  clear HPk k3 HPs HC HB
  go_region_with (go_at_call 176;refine Calls.mono (HL.out _ (HPs3.out.keep (kept_drew _))) ?_;rintro e w5 (⟨us5,ws5,v5,rfl,hsp5,hw5,hT5,hC5,es5,vs5,hR5,hN5,hU5⟩|⟨p,rfl,hw5,hC5⟩);rotate_left;exact And.intro rfl (Ot.bad (ts:=k::us0) (st:=[pUNARY]) (st2:=[[40],pARGS,[41]]) HW.out (HC3.out.andThen (kept_drew _).chg) hw5.out hC5);obtain⟨q0,q1,q2,q3⟩:=HB3.out w5 ((kept_drew _).chg.andThen hC5);obtain⟨a5,c5,rfl⟩:=hR5.form)
  all_goals
   have hsz:w.heap.size≤w3.drew.heap.size:=HC3.out.size
   have HN:Hid (Nd w5 (Fr w.heap.size) (.iface 269 (.agg #[.int .i64 (k.pos:Int),.slice a5 vs5.length c5,.int .i64 (cvT k).kind,strL (cvT k).text,.int .i64 ((cvT k).at_:Int)])) (.call k es5)):=.call (hR5.fr hsz) hN5.1 (hN5.mono (fun _ q=>Nat.le_trans hsz q)).2
   rw[←HA.out] at HN
   go_wp2
   refine bodyPost_ret (v:=.iface 269 (.agg #[.int .i64 ((cvT k).at_:Int),.slice a5 vs5.length c5,.int .i64 (cvT k).kind,strL (cvT k).text,.int .i64 ((cvT k).at_:Int)])) (by simp[results,Tryz.results173,go_sem]) rfl ?_
   rcases hU5 with⟨rfl,l,r,rfl,hl,hr⟩|⟨l,r,t1,rfl,hl,hp,hr⟩
   ·exact .inl ⟨[k,l,r],ws5,_,rfl,congrArg (k::·) hsp5.out,fun r=>(HW.out r).trans (hw5.out r),hT5,(HC3.out.andThen (kept_drew _).chg).andThen hC5,_,.call0 HK.out hl hr,HN.out⟩
   ·exact .inl ⟨k::l::(t1++[r]),ws5,_,rfl,congrArg (k::·) hsp5.out,fun r=>(HW.out r).trans (hw5.out r),hT5,(HC3.out.andThen (kept_drew _).chg).andThen hC5,_,.call HK.out hl hp hr,HN.out⟩
 ·have hkk:((hdP E.t.length us0).text==[40])=false:=beq_false_of_ne (fun h=>c (hX1.1 h))
  have HW:Hid (∀r,wrongM E.t.length (k::us0) ([pUNARY]++r)=wrongM E.t.length us0 r):=fun r=>(HW0.out r).trans (call_no c r)
  clear hX1 c HL
  generalize hdP E.t.length us0=kv at*
  go_wp2_with (go_at_call 57;refine Calls.mono HPk.out ?_;rintro e w3 ⟨rfl,k3⟩;obtain⟨q0,q1,q2,q3⟩:=HB.out w3 k3.chg;unfold tkV)
  rw[HA.out]
  go_ret
  have HN:Nd w3 (Fr w.heap.size) (.iface 267 (.agg #[.int .i64 (k.pos:Int),nilS,.int .i64 (cvT k).kind,strL (cvT k).text,.int .i64 ((cvT k).at_:Int)])) (.name k):=.name
  rw[HA.out] at HN
  exact .inl ⟨[k],us0,_,rfl,rfl,HW,HPs.out.keep k3,HC.out.andThen k3.chg,.name k,.name HK.out,HN⟩
end Go.Proofs.YtgamjhpebmmjcaaGreatDoor
namespace Go.Proofs.YtgamjhpebmmjcaaGreatDoor
set_option maxRecDepth 100000
set_option maxHeartbeats 40000000
open Go.RowKit Flt
attribute [local go_sem] alloc_drewN setCell_drewN run_store_float fld0 fld1 fld2 mkF
theorem isNumS (k:PTk)(w:World):Calls Tryz.prog 59 #[tkV k] w fun e w'=>e=.returned (.bool (k.kind==4||k.kind==5))∧Kept 0 0 w w':=by
 obtain⟨kk,kt,ka⟩:=k
 unfold tkV
 simp only
 have ka0:=kept_alloc 0 0 w (.cells #[.int .i64 kk,strL kt,.int .i64 (ka:Int)] 106)
 cases h4:(kk==4)
 ·cases h5:(kk==5)
  all_goals
   go_enter Tryz.func59,Tryz.ntmps59
   go_wp2
   refine bodyPost_ret (v:=.bool (kk==4||kk==5)) (by simp[results,Tryz.results59,go_sem,h4,h5]) rfl ?_
   rw[h4,h5]
   exact⟨rfl,ka0⟩
 ·go_enter Tryz.func59,Tryz.ntmps59
  go_wp2
  refine bodyPost_ret (v:=.bool true) (by simp[results,Tryz.results59,go_sem]) rfl ?_
  exact⟨rfl,ka0⟩
theorem un_other {s:List UInt8}(h1:s≠[45])(h2:s≠sName)(h3:s≠[40])(h4:s∉keysL)(h5:s≠sDec):unaryM s=[sInt]:=by
 have no:∀x,x∈keysL→s≠x:=fun x hx e=>h4 (by rw[e];exact hx)
 unfold unaryM
 rw[if_neg h1,if_neg (show ¬s=[110,97,109,101] from h2),if_neg h3,if_neg (fun e=>e.elim (no _ (by decide)) (no _ (by decide))),if_neg (fun e=>e.elim (no _ (by decide)) (no _ (by decide))),if_neg (no _ (by decide)),if_neg (fun e=>e.elim (no _ (by decide)) (no _ (by decide))),if_neg (no _ (by decide)),if_neg (no _ (by decide)),if_neg (no _ (by decide)),if_neg (show ¬s=[100,101,99] from h5)]
 rfl
theorem prim_bad {n p:Nat}{ts:List Tok}(h1:hdS ts≠[45])(h2:hdS ts≠sName)(h4:hdS ts∉keysL)(h5:hdS ts≠sDec)(h6:hdS ts≠sInt)(hw:∀r,wrongM n ts ([[40]]++r)=(p:Int))(r:List (List UInt8)):wrongM n ts ([pUNARY]++r)=(p:Int):=by
 show wrongM n ts (pUNARY::r)=_
 rw[wrong_un]
 by_cases c:hdS ts=[40]
 ·rw[c]
  exact hw (pEXPR::[41]::r)
 ·rw[un_other h1 h2 c h4 h5]
  have e1:=hw []
  rw[show[[40]]++[]=[40]::([]:List (List UInt8)) from rfl,wrong_no (by decide) c] at e1
  rw[←e1]
  exact wrong_no (by decide) h6 r
theorem primaryS {E:Pe}{n:Nat}(hX:XC E 97 [pEXPR] 2 n)(hK:∀W ts,Ps E W ts→ts.length<n+1→hdS ts∈keysL→Calls Tryz.prog 174 #[.pointer (some ⟨E.P,0,none⟩)] W (Ot E W ts [pUNARY] (GN W 0))){w:World}{ts:List Tok}(f:Ps E w ts)(hlen:ts.length<n+1)(h45:hdS ts≠[45]):Calls Tryz.prog 170 #[.pointer (some ⟨E.P,0,none⟩)] w (Ot E w ts [pUNARY] (GN w 0)):=by
 have hcl:∀k∈ts,TkC k:=by obtain⟨i,h⟩:=f;exact h.cl
 obtain⟨kd1,kd2,kd3,kd4,_⟩:=hd_kind (n:=E.t.length) hcl
 have HPk:Hid _:=peekS f
 have HNu:Hid (∀W,_):=fun W=>isNumS (hdP E.t.length ts) W
 have HPw:Hid (E.P<w.heap.size):=f.nw.1
 have HA:Hid ((hdP E.t.length ts).at_=posM E.t.length ts):=hd_at _ _
 by_cases cn:hdS ts=sInt∨hdS ts=sDec
 ·obtain⟨k,us,rfl⟩:∃k us,ts=k::us:=by
   rcases cn with c|c
   ·obtain⟨k,us,e,_⟩:=hd_cons c (by decide);exact⟨k,us,e⟩
   ·obtain⟨k,us,e,_⟩:=hd_cons c (by decide);exact⟨k,us,e⟩
  have hb:((cvT k).kind==4||(cvT k).kind==5)=true:=by
   rcases cn with c|c
   ·have e:(cvT k).kind=4:=kd2.2 c
    rw[e];rfl
   ·have e:(cvT k).kind=5:=kd3.2 c
    rw[e];rfl
  have HW:Hid (∀r,wrongM E.t.length (k::us) ([pUNARY]++r)=wrongM E.t.length us r):=fun r=>by
   show wrongM _ _ (pUNARY::r)=_
   rw[wrong_un]
   rcases cn with c|c
   ·rw[c];exact wrong_yes (by decide) c r
   ·rw[c];exact wrong_yes (by decide) c r
  have HT:Hid (∀W,Kept 0 0 w W→_):=fun W kk=>takeS (f.keep kk) (by rcases cn with c|c<;>(have c:k.sym=_:=c;rw[c];decide))
  have HCn:Hid (k.sym=sInt∨k.sym=sDec):=cn
  replace HNu:Hid (∀W,Calls Tryz.prog 59 #[.agg #[.int .i64 (cvT k).kind,strL (cvT k).text,.int .i64 ((cvT k).at_:Int)]] W fun e w'=>e=.returned (.bool true)∧Kept 0 0 W w'):=fun W=>by have h:=HNu.out W;rw[show(hdP E.t.length (k::us))=cvT k from rfl,hb] at h;exact h
  replace HPk:Hid (Calls Tryz.prog 57 #[.pointer (some ⟨E.P,0,none⟩)] w fun e w'=>e=.returned (.agg #[.int .i64 (cvT k).kind,strL (cvT k).text,.int .i64 ((cvT k).at_:Int)])∧Kept 0 0 w w'):=HPk.out
  have HA2:Hid ((cvT k).at_=k.pos):=cv_at k
  clear hX hK f hcl kd1 kd2 kd3 kd4 cn hb h45 hlen HA
  go_enter Tryz.func170,Tryz.ntmps170
  go_upto_region 2 with (go_at_call 57;refine Calls.mono HPk.out ?_;rintro e w2 ⟨rfl,k2⟩)
  have ka:=kept_alloc 0 0 w2 (.cells #[.int .i64 (cvT k).kind,strL (cvT k).text,.int .i64 ((cvT k).at_:Int)] 106)
  have HK3:Hid _:=k2.trans ka
  have HB:Hid (∀w5,Ch E (w2.alloc (.cells #[.int .i64 (cvT k).kind,strL (cvT k).text,.int .i64 ((cvT k).at_:Int)] 106)) w5→w5.cell? ⟨w2.heap.size,0,none⟩=some (.int .i64 (cvT k).kind)∧w5.cell? ⟨w2.heap.size,1,none⟩=some (strL (cvT k).text)∧w5.cell? ⟨w2.heap.size,2,none⟩=some (.int .i64 ((cvT k).at_:Int))∧w2.heap.size<w5.heap.size):=fun w5 c=>by have h:=box_at w2 w5 _ _ c (fun e=>by have:=HPw.out;have:=k2.size;omega);exact⟨h.1 0,h.1 1,h.1 2,h.2.2⟩
  obtain⟨s0,s1,s2,s3⟩:=HB.out _ (ch_refl E _)
  clear ka k2
  generalize w2.alloc (.cells #[.int .i64 (cvT k).kind,strL (cvT k).text,.int .i64 ((cvT k).at_:Int)] 106)=w3 at*
  generalize w2.heap.size=bb at*
  go_upto_region 3 with (go_at_call 59;refine Calls.mono (HNu.out _) ?_;rintro e w4 ⟨rfl,k4⟩)
  obtain⟨t0,t1,t2,t3⟩:=HB.out _ k4.chg
  have HK4:Hid (Kept 0 0 w w4):=HK3.out.trans k4
  have HB4:Hid (∀w5,Ch E w4 w5→_):=fun w5 c=>HB.out w5 (k4.chg.andThen c)
  clear k4 s0 s1 s2 s3 HNu HPk HB HK3
  go_region_with (go_at_call 96;refine Calls.mono (HT.out _ (HK4.out.trans (kept_drew _))) ?_;rintro e w5 ⟨rfl,hT5,hC5⟩;obtain⟨q0,q1,q2,q3⟩:=HB4.out w5 ((kept_drew _).chg.andThen hC5);unfold tkV)
  all_goals
   have HN:Hid (Nd w5 (Fr w.heap.size) (.iface 264 (.agg #[.int .i64 (k.pos:Int),nilS,.int .i64 (cvT k).kind,strL (cvT k).text,.int .i64 ((cvT k).at_:Int)])) (.num k)):=.num
   rw[←HA2.out] at HN
   go_wp2
   refine bodyPost_ret (v:=.iface 264 (.agg #[.int .i64 ((cvT k).at_:Int),nilS,.int .i64 (cvT k).kind,strL (cvT k).text,.int .i64 ((cvT k).at_:Int)])) (by simp[results,Tryz.results170,go_sem]) rfl ?_
   exact .inl ⟨[k],us,_,rfl,rfl,HW,hT5,((HK4.out.trans (kept_drew _)).chg).andThen hC5,.num k,.num HCn.out,HN.out⟩
 ·have hn4:¬(hdP E.t.length ts).kind=4:=fun h=>cn (.inl (kd2.1 h))
  have hn5:¬(hdP E.t.length ts).kind=5:=fun h=>cn (.inr (kd3.1 h))
  have hb:((hdP E.t.length ts).kind==4||(hdP E.t.length ts).kind==5)=false:=by simp[hn4,hn5]
  replace HNu:Hid (∀W,Calls Tryz.prog 59 #[.agg #[.int .i64 (hdP E.t.length ts).kind,strL (hdP E.t.length ts).text,.int .i64 ((hdP E.t.length ts).at_:Int)]] W fun e w'=>e=.returned (.bool false)∧Kept 0 0 W w'):=fun W=>by have h:=HNu.out W;rw[hb] at h;exact h
  replace HPk:Hid (Calls Tryz.prog 57 #[.pointer (some ⟨E.P,0,none⟩)] w fun e w'=>e=.returned (.agg #[.int .i64 (hdP E.t.length ts).kind,strL (hdP E.t.length ts).text,.int .i64 ((hdP E.t.length ts).at_:Int)])∧Kept 0 0 w w'):=HPk.out
  have HKw:Hid (∀W,Kept 0 0 w W→hdS ts∈keysL→_):=fun W kk hc=>hK W ts (f.keep kk) hlen hc
  have HNm:Hid (∀W,Kept 0 0 w W→hdS ts=sName→Calls Tryz.prog 173 #[.pointer (some ⟨E.P,0,none⟩)] W (Ot E W ts [pUNARY] (GN W 0))):=fun W kk hc=>by
   obtain⟨k,us,rfl,hk⟩:=hd_cons hc (by decide)
   exact nameOrCallS hX (f.keep kk) (by simp at hlen;omega) hk
  have HMk:Hid (∀W,Kept 0 0 w W→_):=fun W kk=>takeMarkS (f.keep kk) (s:=[40]) (by decide)
  have HX:Hid _:=hX
  have HL:Hid (ts.length<n+1):=hlen
  have HCn:Hid (¬(hdS ts=sInt∨hdS ts=sDec)):=cn
  have H45:Hid (hdS ts≠[45]):=h45
  have HK1:Hid _:=kd1
  have HK4:Hid _:=kd4
  clear hX hK f hcl kd1 kd2 kd3 kd4 cn hb h45 hlen HA hn4 hn5
  generalize hdP E.t.length ts=kv at*
  obtain⟨kk,kt,ka0⟩:=kv
  simp only at HNu HPk HK1 HK4
  go_enter Tryz.func170,Tryz.ntmps170
  go_upto_region 2 with (go_at_call 57;refine Calls.mono HPk.out ?_;rintro e w2 ⟨rfl,k2⟩)
  have ka:=kept_alloc 0 0 w2 (.cells #[.int .i64 kk,strL kt,.int .i64 (ka0:Int)] 106)
  have HK3:Hid _:=k2.trans ka
  have HB:Hid (∀w5,Kept 0 0 (w2.alloc (.cells #[.int .i64 kk,strL kt,.int .i64 (ka0:Int)] 106)) w5→w5.cell? ⟨w2.heap.size,0,none⟩=some (.int .i64 kk)∧w5.cell? ⟨w2.heap.size,1,none⟩=some (strL kt)∧w5.cell? ⟨w2.heap.size,2,none⟩=some (.int .i64 (ka0:Int))):=fun w5 c=>by have h:=box_at w2 w5 _ _ (c.chg (S:=fun _=>False)) (fun e=>e);exact⟨h.1 0,h.1 1,h.1 2⟩
  obtain⟨s0,s1,s2⟩:=HB.out _ (Kept.refl 0 0 _)
  clear ka k2
  generalize w2.alloc (.cells #[.int .i64 kk,strL kt,.int .i64 (ka0:Int)] 106)=w3 at*
  generalize w2.heap.size=bb at*
  go_upto_region 4 with (go_at_call 59;refine Calls.mono (HNu.out _) ?_;rintro e w4 ⟨rfl,k4⟩)
  obtain⟨t0,t1,t2⟩:=HB.out _ k4
  have HKw4:Hid (Kept 0 0 w w4):=HK3.out.trans k4
  clear k4 s0 s1 s2 HNu HPk HB HK3
  by_cases c2:kk=2
  ·subst c2
   have HQ:Hid _:=HNm.out _ HKw4.out (HK1.out.1 rfl)
   go_wp2_with (go_at_call 173;refine Calls.mono HQ.out ?_;rintro e w5 (⟨us,ws,v,rfl,hsp,hw,hT,hC,e9,hp9,hn9⟩|⟨p,rfl,hw,hC⟩);rotate_left;exact And.intro rfl (Ot.bad (ts:=ts) (st:=[pUNARY]) (st2:=[pUNARY]) (fun r=>rfl) HKw4.out.chg hw.out hC))
   go_ret
   exact .inl ⟨us,ws,_,rfl,hsp,hw,hT,(HKw4.out.chg).andThen hC,e9,hp9,hn9.fr HKw4.out.size⟩
  ·by_cases c3:kk=3
   ·subst c3
    have HQ:Hid _:=HKw.out _ HKw4.out (HK4.out.1 rfl)
    go_wp2_with (go_at_call 174;refine Calls.mono HQ.out ?_;rintro e w5 (⟨us,ws,v,rfl,hsp,hw,hT,hC,e9,hp9,hn9⟩|⟨p,rfl,hw,hC⟩);rotate_left;exact And.intro rfl (Ot.bad (ts:=ts) (st:=[pUNARY]) (st2:=[pUNARY]) (fun r=>rfl) HKw4.out.chg hw.out hC))
    go_ret
    exact .inl ⟨us,ws,_,rfl,hsp,hw,hT,(HKw4.out.chg).andThen hC,e9,hp9,hn9.fr HKw4.out.size⟩
   ·have HQ:Hid _:=HMk.out _ HKw4.out
    have HBad:Hid (∀p:Nat,(∀r,wrongM E.t.length ts ([[40]]++r)=(p:Int))→∀r,wrongM E.t.length ts ([pUNARY]++r)=(p:Int)):=fun p hw r=>prim_bad H45.out (fun e=>c2 (HK1.out.2 e)) (fun e=>c3 (HK4.out.2 e)) (fun e=>HCn.out (.inr e)) (fun e=>HCn.out (.inl e)) hw r
    clear HNm HKw HK1 HK4
    go_upto_region 9 with (go_at_call 99;refine Calls.mono HQ.out ?_;rintro e w5 (⟨us5,ws5,v5,rfl,hsp5,hw5,hT5,hC5,l,rfl,hl,rfl⟩|⟨p,rfl,hw5,hC5⟩);rotate_left;exact And.intro rfl (Or.inr ⟨p,rfl,HBad.out p hw5.out,(HKw4.out.chg).andThen hC5⟩))
    have HW5:Hid (∀r,wrongM E.t.length ts ([pUNARY]++r)=wrongM E.t.length ws5 ([pEXPR]++([41]::r))):=fun r=>by
     have e0:hdS ts=[40]:=by rw[hsp5.out];exact hl
     show wrongM _ _ (pUNARY::r)=_
     rw[wrong_un,e0]
     exact hw5.out (pEXPR::[41]::r)
    have HC5:Hid (Ch E w w5):=(HKw4.out.chg).andThen hC5
    have HT5:Hid (Ps E w5 ws5):=hT5
    have HLs:Hid (l.sym=[40]):=hl
    have HL5:Hid (ws5.length<n):=by have:=HL.out;rw[hsp5.out] at this;simp at this;exact this
    clear HBad HQ HMk hT5 hC5 hl hw5
    go_upto_region 10 with (go_at_call 97;refine Calls.mono (HX.out w5 ws5 HT5.out HL5.out) ?_;rintro e w6 (⟨us6,ws6,v6,rfl,hsp6,hw6,hT6,hC6,e6,hp6,hn6⟩|⟨p,rfl,hw6,hC6⟩);rotate_left;exact And.intro rfl (Ot.bad (ts:=ts) (st:=[pUNARY]) (st2:=[pEXPR,[41]]) HW5.out HC5.out (fun r=>hw6.out ([41]::r)) hC6))
    have HM6:Hid _:=takeMarkS hT6 (s:=[41]) (by decide)
    have HC6:Hid (Ch E w w6):=HC5.out.andThen hC6
    have HN6:Hid (Nd w6 (Fr w.heap.size) v6 e6):=hn6.fr HC5.out.size
    have HP6:Hid (Pr 2 [e6] us6):=hp6
    clear hT6 hC6 hn6 hp6
    go_wp2_with (go_at_call 99;refine Calls.mono HM6.out ?_;rintro e w7 (⟨us7,ws7,v7,rfl,hsp7,hw7,hT7,hC7,r7,rfl,hr,rfl⟩|⟨p,rfl,hw7,hC7⟩);rotate_left;exact And.intro rfl (Ot.bad (ts:=ts) (st:=[pUNARY]) (st2:=[[41]]) (fun r=>(HW5.out r).trans (hw6.out ([41]::r))) HC6.out hw7.out hC7))
    go_ret
    exact .inl ⟨l::(us6++[r7]),ws7,_,rfl,by show _=_;rw[hsp5.out,hsp6.out,hsp7.out];simp,fun r=>((HW5.out r).trans (hw6.out ([41]::r))).trans (hw7.out r),hT7,HC6.out.andThen hC7,e6,.par HLs.out HP6.out hr,HN6.out.ch hC7 HPw.out⟩
end Go.Proofs.YtgamjhpebmmjcaaGreatDoor
namespace Go.Proofs.YtgamjhpebmmjcaaGreatDoor
set_option maxRecDepth 100000
set_option maxHeartbeats 40000000
open Go.RowKit Flt
attribute [local go_sem] alloc_drewN setCell_drewN run_store_float fld0 fld1 fld2 mkF
theorem two_of {α β:Type}{vs:List α}{e d:β}(h:vs.length=[e,d].length):∃v u,vs=[v,u]:=by
 match vs,h with
 |[v,u],_=>exact⟨v,u,rfl⟩
theorem three_of {α β:Type}{vs:List α}{e d c:β}(h:vs.length=[e,d,c].length):∃v u x,vs=[v,u,x]:=by
 match vs,h with
 |[v,u,x],_=>exact⟨v,u,x,rfl⟩
theorem kwExp {E:Pe}{n:Nat}(hX:XC E 97 [pEXPR] 2 n){w:World}{k:Tok}{us0:List Tok}(f:Ps E w (k::us0))(hlen:us0.length<n+1)(hk:k.sym=kExp):Calls Tryz.prog 174 #[.pointer (some ⟨E.P,0,none⟩)] w (Ot E w (k::us0) [pUNARY] (GN w 0)):=by
 have hcl:∀x∈(k::us0),TkC x:=by obtain⟨i,h⟩:=f;exact h.cl
 have htx:(cvT k).text=kExp:=(hd_text (n:=E.t.length) hcl (by decide)).2 hk
 have HPk:Hid (Calls Tryz.prog 57 #[.pointer (some ⟨E.P,0,none⟩)] w fun e w'=>e=.returned (.agg #[.int .i64 (cvT k).kind,strL (cvT k).text,.int .i64 ((cvT k).at_:Int)])∧Kept 0 0 w w'):=peekS f
 rw[htx] at HPk
 have HPw:Hid (E.P<w.heap.size):=f.nw.1
 have HKs:Hid (k.sym=kExp):=hk
 have HOp:Hid (∀W,Kept 0 0 w W→Calls Tryz.prog 177 #[.pointer (some ⟨E.P,0,none⟩),.int .i64 1] W (Ot E W (k::us0) [k.sym,[40],pEXPR] (GOp W k 1))):=fun W kk=>openedS hX (f.keep kk) hlen (by rw[hk];decide) (m:=0) (by omega)
 have HW:Hid (∀r,wrongM E.t.length (k::us0) ([pUNARY]++r)=wrongM E.t.length (k::us0) ([k.sym,[40],pEXPR,[41]]++r)):=fun r=>by
  show wrongM _ _ (pUNARY::r)=_
  rw[wrong_un,show hdS (k::us0)=kExp from hk,hk]
  rfl
 clear hX f hlen hcl htx hk
 go_enter Tryz.func174,Tryz.ntmps174
 go_upto_region 25 with (first|(go_at_call 57;refine Calls.mono HPk.out ?_;rintro e w2 ⟨rfl,k2⟩)|(go_at_call 177;refine Calls.mono (HOp.out _ k2) ?_;rintro e w3 (⟨us3,ws3,v3,rfl,hsp3,hw3,hT3,hC3,l,t1,es3,vs3,sl3,hu3,hl,hp3,hn3,rfl,hG3⟩|⟨p,rfl,hw3,hC3⟩);rotate_left;exact And.intro rfl (Ot.bad (ts:=k::us0) (st:=[pUNARY]) (st2:=[k.sym,[40],pEXPR,[41]]) HW.out k2.chg (fun r=>hw3.out ([[41]]++r)) hC3);obtain⟨a3,c3,rfl⟩:=hG3.rw.form;replace hu3:Hid _:=hu3;replace hl:Hid _:=hl;replace hn3:Hid _:=hn3))
 obtain⟨e1,he3,p1⟩:=pr3_one hp3 hn3.out
 subst he3
 obtain⟨v1,rfl⟩:=one_of hG3.nd.1
 have HCz:Hid (Ch E w w3):=k2.chg.andThen (hC3)
 have hGz:=hG3.le k2.size
 have HN:Hid (Nd w3 (Fr w.heap.size) (.iface 261 (.agg #[.int .i64 (k.pos:Int),.slice a3 1 c3,.int .i64 13])) (.key1 k e1)):=.exp HKs.out hGz.rw (hGz.ndl.2 0 _ _ rfl rfl)
 have HM:Hid _:=takeMarkS hT3 (s:=[41]) (by decide)
 have HWz:Hid (∀r,wrongM E.t.length (k::us0) ([pUNARY]++r)=wrongM E.t.length ws3 ([[41]]++r)):=fun r=>(HW.out r).trans (hw3.out ([[41]]++r))
 clear HPk HW hT3 hw3 hC3 k2 hG3 hGz
 go_wp2_with (go_at_call 99;refine Calls.mono HM.out ?_;rintro e w9 (⟨us9,ws9,v9,rfl,hsp9,hw9,hT9,hC9,r9,rfl,hr9,rfl⟩|⟨p,rfl,hw9,hC9⟩);rotate_left;exact And.intro rfl (Ot.bad (ts:=k::us0) (st:=[pUNARY]) (st2:=[[41]]) HWz.out HCz.out hw9.out hC9))
 go_ret
 exact .inl ⟨k::l::(t1++[r9]),ws9,_,rfl,by show _=_;rw[hsp3.out,hu3.out,hsp9.out];simp,fun r=>(HWz.out r).trans (hw9.out r),hT9,HCz.out.andThen hC9,.key1 k e1,.key1 (.inl HKs.out) hl.out p1 hr9,HN.out.ch hC9 HPw.out⟩
theorem kwSum {E:Pe}{n:Nat}(hX:XC E 97 [pEXPR] 2 n){w:World}{k:Tok}{us0:List Tok}(f:Ps E w (k::us0))(hlen:us0.length<n+1)(hk:k.sym=kSum):Calls Tryz.prog 174 #[.pointer (some ⟨E.P,0,none⟩)] w (Ot E w (k::us0) [pUNARY] (GN w 0)):=by
 have hcl:∀x∈(k::us0),TkC x:=by obtain⟨i,h⟩:=f;exact h.cl
 have htx:(cvT k).text=kSum:=(hd_text (n:=E.t.length) hcl (by decide)).2 hk
 have HPk:Hid (Calls Tryz.prog 57 #[.pointer (some ⟨E.P,0,none⟩)] w fun e w'=>e=.returned (.agg #[.int .i64 (cvT k).kind,strL (cvT k).text,.int .i64 ((cvT k).at_:Int)])∧Kept 0 0 w w'):=peekS f
 rw[htx] at HPk
 have HPw:Hid (E.P<w.heap.size):=f.nw.1
 have HKs:Hid (k.sym=kSum):=hk
 have HOp:Hid (∀W,Kept 0 0 w W→Calls Tryz.prog 177 #[.pointer (some ⟨E.P,0,none⟩),.int .i64 1] W (Ot E W (k::us0) [k.sym,[40],pEXPR] (GOp W k 1))):=fun W kk=>openedS hX (f.keep kk) hlen (by rw[hk];decide) (m:=0) (by omega)
 have HW:Hid (∀r,wrongM E.t.length (k::us0) ([pUNARY]++r)=wrongM E.t.length (k::us0) ([k.sym,[40],pEXPR,[41]]++r)):=fun r=>by
  show wrongM _ _ (pUNARY::r)=_
  rw[wrong_un,show hdS (k::us0)=kSum from hk,hk]
  rfl
 clear hX f hlen hcl htx hk
 go_enter Tryz.func174,Tryz.ntmps174
 go_upto_region 25 with (first|(go_at_call 57;refine Calls.mono HPk.out ?_;rintro e w2 ⟨rfl,k2⟩)|(go_at_call 177;refine Calls.mono (HOp.out _ k2) ?_;rintro e w3 (⟨us3,ws3,v3,rfl,hsp3,hw3,hT3,hC3,l,t1,es3,vs3,sl3,hu3,hl,hp3,hn3,rfl,hG3⟩|⟨p,rfl,hw3,hC3⟩);rotate_left;exact And.intro rfl (Ot.bad (ts:=k::us0) (st:=[pUNARY]) (st2:=[k.sym,[40],pEXPR,[41]]) HW.out k2.chg (fun r=>hw3.out ([[41]]++r)) hC3);obtain⟨a3,c3,rfl⟩:=hG3.rw.form;replace hu3:Hid _:=hu3;replace hl:Hid _:=hl;replace hn3:Hid _:=hn3))
 obtain⟨e1,he3,p1⟩:=pr3_one hp3 hn3.out
 subst he3
 obtain⟨v1,rfl⟩:=one_of hG3.nd.1
 have HCz:Hid (Ch E w w3):=k2.chg.andThen (hC3)
 have hGz:=hG3.le k2.size
 have HN:Hid (Nd w3 (Fr w.heap.size) (.iface 272 (.agg #[.int .i64 (k.pos:Int),.slice a3 1 c3])) (.key1 k e1)):=.sum HKs.out hGz.rw (hGz.ndl.2 0 _ _ rfl rfl)
 have HM:Hid _:=takeMarkS hT3 (s:=[41]) (by decide)
 have HWz:Hid (∀r,wrongM E.t.length (k::us0) ([pUNARY]++r)=wrongM E.t.length ws3 ([[41]]++r)):=fun r=>(HW.out r).trans (hw3.out ([[41]]++r))
 clear HPk HW hT3 hw3 hC3 k2 hG3 hGz
 go_wp2_with (go_at_call 99;refine Calls.mono HM.out ?_;rintro e w9 (⟨us9,ws9,v9,rfl,hsp9,hw9,hT9,hC9,r9,rfl,hr9,rfl⟩|⟨p,rfl,hw9,hC9⟩);rotate_left;exact And.intro rfl (Ot.bad (ts:=k::us0) (st:=[pUNARY]) (st2:=[[41]]) HWz.out HCz.out hw9.out hC9))
 go_ret
 exact .inl ⟨k::l::(t1++[r9]),ws9,_,rfl,by show _=_;rw[hsp3.out,hu3.out,hsp9.out];simp,fun r=>(HWz.out r).trans (hw9.out r),hT9,HCz.out.andThen hC9,.key1 k e1,.key1 (.inr HKs.out) hl.out p1 hr9,HN.out.ch hC9 HPw.out⟩
end Go.Proofs.YtgamjhpebmmjcaaGreatDoor
namespace Go.Proofs.YtgamjhpebmmjcaaGreatDoor
set_option maxRecDepth 100000
set_option maxHeartbeats 40000000
open Go.RowKit Flt
attribute [local go_sem] alloc_drewN setCell_drewN run_store_float fld0 fld1 fld2 mkF
theorem kwMax {E:Pe}{n:Nat}(hX:XC E 97 [pEXPR] 2 n){w:World}{k:Tok}{us0:List Tok}(f:Ps E w (k::us0))(hlen:us0.length<n+1)(hk:k.sym=kMax):Calls Tryz.prog 174 #[.pointer (some ⟨E.P,0,none⟩)] w (Ot E w (k::us0) [pUNARY] (GN w 0)):=by
 have hcl:∀x∈(k::us0),TkC x:=by obtain⟨i,h⟩:=f;exact h.cl
 have htx:(cvT k).text=kMax:=(hd_text (n:=E.t.length) hcl (by decide)).2 hk
 have HPk:Hid (Calls Tryz.prog 57 #[.pointer (some ⟨E.P,0,none⟩)] w fun e w'=>e=.returned (.agg #[.int .i64 (cvT k).kind,strL (cvT k).text,.int .i64 ((cvT k).at_:Int)])∧Kept 0 0 w w'):=peekS f
 rw[htx] at HPk
 have HPw:Hid (E.P<w.heap.size):=f.nw.1
 have HKs:Hid (k.sym=kMax):=hk
 have HOp:Hid (∀W,Kept 0 0 w W→Calls Tryz.prog 177 #[.pointer (some ⟨E.P,0,none⟩),.int .i64 2] W (Ot E W (k::us0) [k.sym,[40],pEXPR,[44],pEXPR] (GOp W k 2))):=fun W kk=>openedS hX (f.keep kk) hlen (by rw[hk];decide) (m:=1) (by omega)
 have HW:Hid (∀r,wrongM E.t.length (k::us0) ([pUNARY]++r)=wrongM E.t.length (k::us0) ([k.sym,[40],pEXPR,[44],pEXPR,[41]]++r)):=fun r=>by
  show wrongM _ _ (pUNARY::r)=_
  rw[wrong_un,show hdS (k::us0)=kMax from hk,hk]
  rfl
 clear hX f hlen hcl htx hk
 go_enter Tryz.func174,Tryz.ntmps174
 go_upto_region 25 with (first|(go_at_call 57;refine Calls.mono HPk.out ?_;rintro e w2 ⟨rfl,k2⟩)|(go_at_call 177;refine Calls.mono (HOp.out _ k2) ?_;rintro e w3 (⟨us3,ws3,v3,rfl,hsp3,hw3,hT3,hC3,l,t1,es3,vs3,sl3,hu3,hl,hp3,hn3,rfl,hG3⟩|⟨p,rfl,hw3,hC3⟩);rotate_left;exact And.intro rfl (Ot.bad (ts:=k::us0) (st:=[pUNARY]) (st2:=[k.sym,[40],pEXPR,[44],pEXPR,[41]]) HW.out k2.chg (fun r=>hw3.out ([[41]]++r)) hC3);obtain⟨a3,c3,rfl⟩:=hG3.rw.form;replace hu3:Hid _:=hu3;replace hl:Hid _:=hl;replace hn3:Hid _:=hn3))
 obtain⟨e1,e2,t2,c2,t3,he3,ht3,p1,hc2,p2⟩:=pr3_two hp3 hn3.out
 subst he3
 obtain⟨v1,v2,rfl⟩:=two_of hG3.nd.1
 replace ht3:Hid _:=ht3
 have HCz:Hid (Ch E w w3):=k2.chg.andThen (hC3)
 have hGz:=hG3.le k2.size
 have HN:Hid (Nd w3 (Fr w.heap.size) (.iface 249 (.agg #[.int .i64 (k.pos:Int),.slice a3 2 c3,.int .i64 7])) (.key2 k e1 e2)):=.max HKs.out hGz.rw (hGz.ndl.2 0 _ _ rfl rfl) (hGz.ndl.2 1 _ _ rfl rfl)
 have HM:Hid _:=takeMarkS hT3 (s:=[41]) (by decide)
 have HWz:Hid (∀r,wrongM E.t.length (k::us0) ([pUNARY]++r)=wrongM E.t.length ws3 ([[41]]++r)):=fun r=>(HW.out r).trans (hw3.out ([[41]]++r))
 clear HPk HW hT3 hw3 hC3 k2 hG3 hGz
 go_wp2_with (go_at_call 99;refine Calls.mono HM.out ?_;rintro e w9 (⟨us9,ws9,v9,rfl,hsp9,hw9,hT9,hC9,r9,rfl,hr9,rfl⟩|⟨p,rfl,hw9,hC9⟩);rotate_left;exact And.intro rfl (Ot.bad (ts:=k::us0) (st:=[pUNARY]) (st2:=[[41]]) HWz.out HCz.out hw9.out hC9))
 go_ret
 exact .inl ⟨k::l::(t2++c2::(t3++[r9])),ws9,_,rfl,by show _=_;rw[hsp3.out,hu3.out,ht3.out,hsp9.out];simp,fun r=>(HWz.out r).trans (hw9.out r),hT9,HCz.out.andThen hC9,.key2 k e1 e2,.key2 (.inl HKs.out) hl.out p1 hc2 p2 hr9,HN.out.ch hC9 HPw.out⟩
theorem kwSel {E:Pe}{n:Nat}(hX:XC E 97 [pEXPR] 2 n){w:World}{k:Tok}{us0:List Tok}(f:Ps E w (k::us0))(hlen:us0.length<n+1)(hk:k.sym=kSel):Calls Tryz.prog 174 #[.pointer (some ⟨E.P,0,none⟩)] w (Ot E w (k::us0) [pUNARY] (GN w 0)):=by
 have hcl:∀x∈(k::us0),TkC x:=by obtain⟨i,h⟩:=f;exact h.cl
 have htx:(cvT k).text=kSel:=(hd_text (n:=E.t.length) hcl (by decide)).2 hk
 have HPk:Hid (Calls Tryz.prog 57 #[.pointer (some ⟨E.P,0,none⟩)] w fun e w'=>e=.returned (.agg #[.int .i64 (cvT k).kind,strL (cvT k).text,.int .i64 ((cvT k).at_:Int)])∧Kept 0 0 w w'):=peekS f
 rw[htx] at HPk
 have HPw:Hid (E.P<w.heap.size):=f.nw.1
 have HKs:Hid (k.sym=kSel):=hk
 have HOp:Hid (∀W,Kept 0 0 w W→Calls Tryz.prog 177 #[.pointer (some ⟨E.P,0,none⟩),.int .i64 3] W (Ot E W (k::us0) [k.sym,[40],pEXPR,[44],pEXPR,[44],pEXPR] (GOp W k 3))):=fun W kk=>openedS hX (f.keep kk) hlen (by rw[hk];decide) (m:=2) (by omega)
 have HW:Hid (∀r,wrongM E.t.length (k::us0) ([pUNARY]++r)=wrongM E.t.length (k::us0) ([k.sym,[40],pEXPR,[44],pEXPR,[44],pEXPR,[41]]++r)):=fun r=>by
  show wrongM _ _ (pUNARY::r)=_
  rw[wrong_un,show hdS (k::us0)=kSel from hk,hk]
  rfl
 clear hX f hlen hcl htx hk
 go_enter Tryz.func174,Tryz.ntmps174
 go_upto_region 25 with (first|(go_at_call 57;refine Calls.mono HPk.out ?_;rintro e w2 ⟨rfl,k2⟩)|(go_at_call 177;refine Calls.mono (HOp.out _ k2) ?_;rintro e w3 (⟨us3,ws3,v3,rfl,hsp3,hw3,hT3,hC3,l,t1,es3,vs3,sl3,hu3,hl,hp3,hn3,rfl,hG3⟩|⟨p,rfl,hw3,hC3⟩);rotate_left;exact And.intro rfl (Ot.bad (ts:=k::us0) (st:=[pUNARY]) (st2:=[k.sym,[40],pEXPR,[44],pEXPR,[44],pEXPR,[41]]) HW.out k2.chg (fun r=>hw3.out ([[41]]++r)) hC3);obtain⟨a3,c3,rfl⟩:=hG3.rw.form;replace hu3:Hid _:=hu3;replace hl:Hid _:=hl;replace hn3:Hid _:=hn3))
 obtain⟨e1,e2,e3,t2,c2,t3,c3b,t4,he3,ht3,p1,hc2,p2,hc3,p3⟩:=pr3_three hp3 hn3.out
 subst he3
 obtain⟨v1,v2,v3,rfl⟩:=three_of hG3.nd.1
 replace ht3:Hid _:=ht3
 have HCz:Hid (Ch E w w3):=k2.chg.andThen (hC3)
 have hGz:=hG3.le k2.size
 have HN:Hid (Nd w3 (Fr w.heap.size) (.iface 249 (.agg #[.int .i64 (k.pos:Int),.slice a3 3 c3,.int .i64 8])) (.key3 k e1 e2 e3)):=.sel HKs.out hGz.rw (hGz.ndl.2 0 _ _ rfl rfl) (hGz.ndl.2 1 _ _ rfl rfl) (hGz.ndl.2 2 _ _ rfl rfl)
 have HM:Hid _:=takeMarkS hT3 (s:=[41]) (by decide)
 have HWz:Hid (∀r,wrongM E.t.length (k::us0) ([pUNARY]++r)=wrongM E.t.length ws3 ([[41]]++r)):=fun r=>(HW.out r).trans (hw3.out ([[41]]++r))
 clear HPk HW hT3 hw3 hC3 k2 hG3 hGz
 go_wp2_with (go_at_call 99;refine Calls.mono HM.out ?_;rintro e w9 (⟨us9,ws9,v9,rfl,hsp9,hw9,hT9,hC9,r9,rfl,hr9,rfl⟩|⟨p,rfl,hw9,hC9⟩);rotate_left;exact And.intro rfl (Ot.bad (ts:=k::us0) (st:=[pUNARY]) (st2:=[[41]]) HWz.out HCz.out hw9.out hC9))
 go_ret
 exact .inl ⟨k::l::(t2++c2::(t3++c3b::(t4++[r9]))),ws9,_,rfl,by show _=_;rw[hsp3.out,hu3.out,ht3.out,hsp9.out];simp,fun r=>(HWz.out r).trans (hw9.out r),hT9,HCz.out.andThen hC9,.key3 k e1 e2 e3,.key3 HKs.out hl.out p1 hc2 p2 hc3 p3 hr9,HN.out.ch hC9 HPw.out⟩
end Go.Proofs.YtgamjhpebmmjcaaGreatDoor
namespace Go.Proofs.YtgamjhpebmmjcaaGreatDoor
set_option maxRecDepth 100000
set_option maxHeartbeats 40000000
open Go.RowKit Flt
attribute [local go_sem] alloc_drewN setCell_drewN run_store_float fld0 fld1 fld2 mkF
theorem kwIn {E:Pe}{w:World}{k:Tok}{us0:List Tok}(f:Ps E w (k::us0))(hk:k.sym=kIn):Calls Tryz.prog 174 #[.pointer (some ⟨E.P,0,none⟩)] w (Ot E w (k::us0) [pUNARY] (GN w 0)):=by
 have hcl:∀x∈(k::us0),TkC x:=by obtain⟨i,h⟩:=f;exact h.cl
 have htx:(cvT k).text=kIn:=(hd_text (n:=E.t.length) hcl (by decide)).2 hk
 have HPk:Hid (Calls Tryz.prog 57 #[.pointer (some ⟨E.P,0,none⟩)] w fun e w'=>e=.returned (.agg #[.int .i64 (cvT k).kind,strL (cvT k).text,.int .i64 ((cvT k).at_:Int)])∧Kept 0 0 w w'):=peekS f
 rw[htx] at HPk
 have HR:Hid (∀W,Kept 0 0 w W→_):=fun W kk=>refuseS (f.keep kk)
 have HW:Hid (∀r,wrongM E.t.length (k::us0) ([pUNARY]++r)=(posM E.t.length (k::us0):Int)):=fun r=>by
  show wrongM _ _ (pUNARY::r)=_
  rw[wrong_un,show hdS (k::us0)=kIn from hk]
  exact wrong_no (s:=sInt) (by decide) (by show k.sym≠_;rw[hk];decide) r
 clear f hcl htx hk
 go_enter Tryz.func174,Tryz.ntmps174
 go_wp2_with (first|(go_at_call 57;refine Calls.mono HPk.out ?_;rintro e w2 ⟨rfl,k2⟩)|(go_at_call 98;refine Calls.mono (HR.out _ k2) ?_;rintro e w3 ⟨rfl,k3⟩))
 exact⟨rfl,.inr ⟨_,rfl,HW.out,(k2.trans k3).chg⟩⟩
theorem kwLet {E:Pe}{w:World}{k:Tok}{us0:List Tok}(f:Ps E w (k::us0))(hk:k.sym=kLet):Calls Tryz.prog 174 #[.pointer (some ⟨E.P,0,none⟩)] w (Ot E w (k::us0) [pUNARY] (GN w 0)):=by
 have hcl:∀x∈(k::us0),TkC x:=by obtain⟨i,h⟩:=f;exact h.cl
 have htx:(cvT k).text=kLet:=(hd_text (n:=E.t.length) hcl (by decide)).2 hk
 have HPk:Hid (Calls Tryz.prog 57 #[.pointer (some ⟨E.P,0,none⟩)] w fun e w'=>e=.returned (.agg #[.int .i64 (cvT k).kind,strL (cvT k).text,.int .i64 ((cvT k).at_:Int)])∧Kept 0 0 w w'):=peekS f
 rw[htx] at HPk
 have HR:Hid (∀W,Kept 0 0 w W→_):=fun W kk=>refuseS (f.keep kk)
 have HW:Hid (∀r,wrongM E.t.length (k::us0) ([pUNARY]++r)=(posM E.t.length (k::us0):Int)):=fun r=>by
  show wrongM _ _ (pUNARY::r)=_
  rw[wrong_un,show hdS (k::us0)=kLet from hk]
  exact wrong_no (s:=sInt) (by decide) (by show k.sym≠_;rw[hk];decide) r
 clear f hcl htx hk
 go_enter Tryz.func174,Tryz.ntmps174
 go_wp2_with (first|(go_at_call 57;refine Calls.mono HPk.out ?_;rintro e w2 ⟨rfl,k2⟩)|(go_at_call 98;refine Calls.mono (HR.out _ k2) ?_;rintro e w3 ⟨rfl,k3⟩))
 exact⟨rfl,.inr ⟨_,rfl,HW.out,(k2.trans k3).chg⟩⟩
theorem kwOut {E:Pe}{w:World}{k:Tok}{us0:List Tok}(f:Ps E w (k::us0))(hk:k.sym=kOut):Calls Tryz.prog 174 #[.pointer (some ⟨E.P,0,none⟩)] w (Ot E w (k::us0) [pUNARY] (GN w 0)):=by
 have hcl:∀x∈(k::us0),TkC x:=by obtain⟨i,h⟩:=f;exact h.cl
 have htx:(cvT k).text=kOut:=(hd_text (n:=E.t.length) hcl (by decide)).2 hk
 have HPk:Hid (Calls Tryz.prog 57 #[.pointer (some ⟨E.P,0,none⟩)] w fun e w'=>e=.returned (.agg #[.int .i64 (cvT k).kind,strL (cvT k).text,.int .i64 ((cvT k).at_:Int)])∧Kept 0 0 w w'):=peekS f
 rw[htx] at HPk
 have HR:Hid (∀W,Kept 0 0 w W→_):=fun W kk=>refuseS (f.keep kk)
 have HW:Hid (∀r,wrongM E.t.length (k::us0) ([pUNARY]++r)=(posM E.t.length (k::us0):Int)):=fun r=>by
  show wrongM _ _ (pUNARY::r)=_
  rw[wrong_un,show hdS (k::us0)=kOut from hk]
  exact wrong_no (s:=sInt) (by decide) (by show k.sym≠_;rw[hk];decide) r
 clear f hcl htx hk
 go_enter Tryz.func174,Tryz.ntmps174
 go_wp2_with (first|(go_at_call 57;refine Calls.mono HPk.out ?_;rintro e w2 ⟨rfl,k2⟩)|(go_at_call 98;refine Calls.mono (HR.out _ k2) ?_;rintro e w3 ⟨rfl,k3⟩))
 exact⟨rfl,.inr ⟨_,rfl,HW.out,(k2.trans k3).chg⟩⟩
theorem kwDef {E:Pe}{w:World}{k:Tok}{us0:List Tok}(f:Ps E w (k::us0))(hk:k.sym=kDef):Calls Tryz.prog 174 #[.pointer (some ⟨E.P,0,none⟩)] w (Ot E w (k::us0) [pUNARY] (GN w 0)):=by
 have hcl:∀x∈(k::us0),TkC x:=by obtain⟨i,h⟩:=f;exact h.cl
 have htx:(cvT k).text=kDef:=(hd_text (n:=E.t.length) hcl (by decide)).2 hk
 have HPk:Hid (Calls Tryz.prog 57 #[.pointer (some ⟨E.P,0,none⟩)] w fun e w'=>e=.returned (.agg #[.int .i64 (cvT k).kind,strL (cvT k).text,.int .i64 ((cvT k).at_:Int)])∧Kept 0 0 w w'):=peekS f
 rw[htx] at HPk
 have HR:Hid (∀W,Kept 0 0 w W→_):=fun W kk=>refuseS (f.keep kk)
 have HW:Hid (∀r,wrongM E.t.length (k::us0) ([pUNARY]++r)=(posM E.t.length (k::us0):Int)):=fun r=>by
  show wrongM _ _ (pUNARY::r)=_
  rw[wrong_un,show hdS (k::us0)=kDef from hk]
  exact wrong_no (s:=sInt) (by decide) (by show k.sym≠_;rw[hk];decide) r
 clear f hcl htx hk
 go_enter Tryz.func174,Tryz.ntmps174
 go_wp2_with (first|(go_at_call 57;refine Calls.mono HPk.out ?_;rintro e w2 ⟨rfl,k2⟩)|(go_at_call 98;refine Calls.mono (HR.out _ k2) ?_;rintro e w3 ⟨rfl,k3⟩))
 exact⟨rfl,.inr ⟨_,rfl,HW.out,(k2.trans k3).chg⟩⟩
theorem kwRep {E:Pe}{w:World}{k:Tok}{us0:List Tok}(f:Ps E w (k::us0))(hk:k.sym=kRep):Calls Tryz.prog 174 #[.pointer (some ⟨E.P,0,none⟩)] w (Ot E w (k::us0) [pUNARY] (GN w 0)):=by
 have hcl:∀x∈(k::us0),TkC x:=by obtain⟨i,h⟩:=f;exact h.cl
 have htx:(cvT k).text=kRep:=(hd_text (n:=E.t.length) hcl (by decide)).2 hk
 have HPk:Hid (Calls Tryz.prog 57 #[.pointer (some ⟨E.P,0,none⟩)] w fun e w'=>e=.returned (.agg #[.int .i64 (cvT k).kind,strL (cvT k).text,.int .i64 ((cvT k).at_:Int)])∧Kept 0 0 w w'):=peekS f
 rw[htx] at HPk
 have HR:Hid (∀W,Kept 0 0 w W→_):=fun W kk=>refuseS (f.keep kk)
 have HW:Hid (∀r,wrongM E.t.length (k::us0) ([pUNARY]++r)=(posM E.t.length (k::us0):Int)):=fun r=>by
  show wrongM _ _ (pUNARY::r)=_
  rw[wrong_un,show hdS (k::us0)=kRep from hk]
  exact wrong_no (s:=sInt) (by decide) (by show k.sym≠_;rw[hk];decide) r
 clear f hcl htx hk
 go_enter Tryz.func174,Tryz.ntmps174
 go_wp2_with (first|(go_at_call 57;refine Calls.mono HPk.out ?_;rintro e w2 ⟨rfl,k2⟩)|(go_at_call 98;refine Calls.mono (HR.out _ k2) ?_;rintro e w3 ⟨rfl,k3⟩))
 exact⟨rfl,.inr ⟨_,rfl,HW.out,(k2.trans k3).chg⟩⟩
end Go.Proofs.YtgamjhpebmmjcaaGreatDoor
