import Derived.Test.YtgamjhpebmmjcaaGreatDoorP17
namespace Go.Proofs.YtgamjhpebmmjcaaGreatDoor
set_option maxRecDepth 100000
set_option maxHeartbeats 40000000
open Go.RowKit Flt
theorem FrP.len1 {W:World}{R g cap:Nat}{p r:List Spn}{s:Spn}(f:FrP W R g cap (p++s::r))(z:Int):FrP (W.setCell ⟨g,p.length*2+1,none⟩ (.int .i64 z)) R g cap (p++⟨s.off,z⟩::r):=by
 have hl:(p++Spn.mk s.off z::r).length=(p++s::r).length:=by simp
 refine⟨?_,?_,?_,f.row.len1 z,f.ne,by simpa using f.lt⟩
 ·rw[hl,cell_ne _ _ _ _ _ _ (.inl (fun e=>f.ne e.symm))];exact f.c0
 ·rw[cell_ne _ _ _ _ _ _ (.inl (fun e=>f.ne e.symm))];exact f.c1
 ·rw[World.frozen?_setCell];exact f.fr
theorem getD_mid (p r:List Spn)(s t:Spn):(p++s::t::r).getD p.length Spn.zero=s∧(p++s::t::r).getD (p.length+1) Spn.zero=t:=by
 constructor
 ·rw[List.getD_eq_getElem?_getD,List.getElem?_append_right (Nat.le_refl _),Nat.sub_self];rfl
 ·rw[List.getD_eq_getElem?_getD,List.getElem?_append_right (by omega),show p.length+1-p.length=1 by omega];rfl
theorem FRw.atN {W:World}{g cap:Nat}{l:List Spn}(f:FRw W g cap l){i:Nat}(hi:i<l.length):AtP W g (i*2) (l.getD i Spn.zero):=by
 rcases f.ps.at_ with z|⟨ga,off,e,z1,z2,z3,z4⟩
 ·omega
 ·injection e with e
  injection e with e1 e2
  subst e1 e2
  have:=z4 i hi
  rw[Nat.zero_add] at this
  exact this
theorem join_meet (w:World)(R g cap i n:Nat)(p r:List Spn)(s t:Spn)(f:FrP w R g cap (p++s::t::r))(hi:i=p.length)(hn:(p++s::t::r).length=n)(hb:n≤1000001)
  (h0:0≤s.off∧0≤s.len∧s.off+s.len≤50000) (h1:0≤t.off∧0≤t.len∧t.off+t.len≤50000) (he:s.off+s.len=t.off):
  Calls Tryz.prog 123 #[.pointer (some ⟨R,0,none⟩),.int .i64 (i:Int)] w fun e w'=>e=.returned (.tuple #[])∧FrP w' R g cap (p++⟨s.off,s.len+t.len⟩::r)∧Chg (fun b=>b=R∨b=g) w w':=by
 have hin:i+1<n:=by rw[←hn,hi];simp
 have hd0:decide ((i:Int)<0)=false:=decide_eq_false (by omega)
 have hd1:((i:Int)+1==(n:Int))=false:=by simp;omega
 have hd2:(s.off+s.len==t.off)=true:=by simp;exact he
 have hw1:IntKind.i64.wrap ((i:Int)+1)=(i:Int)+1:=by rw[IntKind.wrap_i64];omega
 have hw2:IntKind.i64.wrap (s.len+t.len)=s.len+t.len:=by rw[IntKind.wrap_i64];omega
 have hi1:(0:Int)≤(i:Int):=by omega
 have hi2:(i:Int)<(n:Int):=by omega
 have hi3:(0:Int)≤(i:Int)+1:=by omega
 have hi4:(i:Int)+1<(n:Int):=by omega
 have HE:Hid (∀W,_):=fun W=>spanEnd W s (by omega)
 have HR:Hid _:=f.lt
 have HG:Hid _:=f.row.lt
 have y0:=f.c0
 rw[hn] at y0
 obtain⟨y1,y2⟩:=f.row.atN (i:=i) (by omega)
 obtain⟨y3,_⟩:=f.row.atN (i:=i+1) (by omega)
 rw[hi,(getD_mid p r s t).1,←hi] at y1 y2
 rw[hi,(getD_mid p r s t).2,←hi] at y3
 have HRM:Hid (∀W,Kept 0 0 w W→Calls Tryz.prog 120 #[.pointer (some ⟨R,0,none⟩),.int .i64 ((i:Int)+1)] W fun e w'=>e=.returned t.agg∧FrP w' R g cap (p++s::r)∧Chg (fun b=>b=R∨b=g) W w'):=fun W kW=>by
  have h:=removeS W R g cap (i+1) (p++s::t::r) (f.keepC (kW.chg (S:=fun _=>False)) (fun h=>h) (fun h=>h)) (by omega) (by omega)
  have e1:(p++s::t::r).take (i+1)++(p++s::t::r).drop (i+1+1)=p++s::r:=by
   have a:p++s::t::r=(p++[s])++t::r:=by simp
   have b:(p++[s]).length=i+1:=by simp[hi]
   rw[a,List.take_left' b]
   have c:(p++[s])++t::r=((p++[s])++[t])++r:=by simp
   rw[c,List.drop_left' (by simp[hi])]
   simp
  rw[e1,hi,(getD_mid p r s t).2,←hi] at h
  exact h
 have HN:Hid ((p++s::r).length=n-1∧i=p.length):=⟨by rw[←hn];simp,hi⟩
 have hin2:(i:Int)<((n-1:Nat):Int):=by omega
 have HNE:Hid _:=f.ne
 clear f hi hn hb h0 h1 he hin
 go_enter Tryz.func123,Tryz.ntmps123
 go_wp2_with fail
 go_region_held3 (fun w'=>w'.cell? ⟨R,0,none⟩=some (.slice (some ⟨g,0,none⟩) n cap)∧w'.cell? ⟨g,i*2,none⟩=some (.int .i64 s.off)∧w'.cell? ⟨g,i*2+1,none⟩=some (.int .i64 s.len)∧w'.cell? ⟨g,(i+1)*2,none⟩=some (.int .i64 t.off)) (go_keep)
  (first|(go_at_call 43;refine Calls.mono (HE.out _) ?_;rintro e w2 ⟨rfl,k2'⟩;have k2:=(kept_drew w).trans k2';have t0:w2.cell? ⟨R,0,none⟩=some (.slice (some ⟨g,0,none⟩) n cap):=(by rw[k2.cell (p:=⟨R,0,none⟩) HR.out (by omega)];exact y0);have t1:w2.cell? ⟨g,i*2,none⟩=some (.int .i64 s.off):=(by rw[k2.cell (p:=⟨g,i*2,none⟩) HG.out (by omega)];exact y1);have t2:w2.cell? ⟨g,i*2+1,none⟩=some (.int .i64 s.len):=(by rw[k2.cell (p:=⟨g,i*2+1,none⟩) HG.out (by omega)];exact y2);have t3:w2.cell? ⟨g,(i+1)*2,none⟩=some (.int .i64 t.off):=(by rw[k2.cell (p:=⟨g,(i+1)*2,none⟩) HG.out (by omega)];exact y3)))
 all_goals
  have HK2:Hid _:=k2
  clear y0 y1 y2 y3 t0 t1 t2 t3 k2 k2'
  go_wp2_with fail
  refine Calls.mono (HRM.out w2 HK2.out) ?_
  rintro e w3 ⟨rfl,F3,C3⟩
  have ka:=kept_alloc 0 0 w3 (spbox t)
  have HF4:Hid _:=F3.keepC (ka.chg (S:=fun _=>False)) (fun h=>h) (fun h=>h)
  have HC4:Hid (Chg (fun b=>b=R∨b=g) w (w3.alloc (spbox t))):=Chg.andThen HK2.out.chg (Chg.andThen C3 ka.chg)
  have hX:XB (w3.alloc (spbox t)) w3.heap.size t:=xb_new w3 t
  have x1:(w3.alloc (spbox t)).cell? ⟨w3.heap.size,1,none⟩=some (.int .i64 t.len):=hX.at_ 1 _ rfl
  have x0:(w3.alloc (spbox t)).cell? ⟨w3.heap.size,0,none⟩=some (.int .i64 t.off):=hX.at_ 0 _ rfl
  clear F3 C3 ka hX
  go_upto_region 2 with fail
  generalize w3.alloc (spbox t)=w4 at HF4 HC4 x0 x1 ⊢
  generalize w3.heap.size=B at x0 x1 ⊢
  have y0:=HF4.out.c0
  rw[HN.out.1] at y0
  obtain⟨_,y2⟩:=HF4.out.row.atN (i:=i) (by have:=HN.out;rw[this.1];omega)
  have e2:(p++s::r).getD i Spn.zero=s:=by
   rw[HN.out.2,List.getD_eq_getElem?_getD,List.getElem?_append_right (Nat.le_refl _),Nat.sub_self];rfl
  rw[e2] at y2
  have f2:=HF4.out.row.fr (i*2+1)
  have HR4:Hid _:=HF4.out.len1 (s.len+t.len)
  rw[←HN.out.2] at HR4
  have HC5:Hid (Chg (fun b=>b=R∨b=g) w (w4.setCell ⟨g,i*2+1,none⟩ (.int .i64 (s.len+t.len)))):=Chg.andThen HC4.out (chg_setCell w4 g _ _ (.inr rfl))
  clear e2 HF4 HC4 HRM HK2
  go_region
  all_goals
   go_wp2_with fail
   refine bodyPost_end (v:=.tuple #[]) (by simp[results,Tryz.results123,go_sem]) rfl ?_
   exact⟨rfl,HR4.out.keepC ((kept_drew _).chg (S:=fun _=>False)) (fun h=>h) (fun h=>h),Chg.andThen HC5.out (kept_drew _).chg⟩
end Go.Proofs.YtgamjhpebmmjcaaGreatDoor
namespace Go.Proofs.YtgamjhpebmmjcaaGreatDoor
set_option maxRecDepth 100000
set_option maxHeartbeats 40000000
open Go.RowKit Flt
def InB (s:Spn):Prop:=0≤s.off∧0≤s.len∧s.off+s.len≤50000
theorem joinS (w:World)(R g cap:Nat)(p r:List Spn)(s:Spn)(f:FrP w R g cap (p++s::r))(hb:(p++s::r).length≤1000001)(hB:∀x∈p++s::r,InB x):
  Calls Tryz.prog 123 #[.pointer (some ⟨R,0,none⟩),.int .i64 (p.length:Int)] w fun e w'=>e=.returned (.tuple #[])∧FrP w' R g cap (p++joinF s r)∧Chg (fun b=>b=R∨b=g) w w':=by
 cases r with
 |nil=>
  have hl:(p++[s]).length=p.length+1:=by simp
  refine Calls.mono (join_end w R g cap p.length (by rw[←hl];exact f.c0) (by omega)) ?_
  rintro e w' ⟨rfl,k⟩
  exact⟨rfl,f.keepC (k.chg (S:=fun _=>False)) (fun h=>h) (fun h=>h),k.chg⟩
 |cons t r=>
  have hs:=hB s (List.mem_append_right _ List.mem_cons_self)
  have ht:=hB t (List.mem_append_right _ (List.mem_cons_of_mem _ List.mem_cons_self))
  by_cases e:s.off+s.len=t.off
  ·refine Calls.mono (join_meet w R g cap p.length _ p r s t f rfl rfl hb hs ht e) ?_
   rintro e' w' ⟨rfl,h1,h2⟩
   rw[joinF_pos e]
   exact⟨rfl,h1,h2⟩
  ·have hlt:p.length+1<(p++s::t::r).length:=by simp
   obtain⟨y1,y2⟩:=f.row.atN (i:=p.length) (by omega)
   obtain⟨y3,_⟩:=f.row.atN (i:=p.length+1) hlt
   rw[(getD_mid p r s t).1] at y1 y2
   rw[(getD_mid p r s t).2] at y3
   refine Calls.mono (join_apart w R g cap p.length _ s t f.c0 hlt hb y1 y2 y3 f.lt f.row.lt (by have:=hs.1;have:=hs.2;omega) e) ?_
   rintro e' w' ⟨rfl,k⟩
   rw[joinF_neg e]
   exact⟨rfl,f.keepC (k.chg (S:=fun _=>False)) (fun h=>h) (fun h=>h),k.chg⟩
def RlO (w:World)(R g:Nat)(l:List Spn)(x:Spn)(e:Ending)(w':World):Prop:=∃i g' cap',e=.returned (.tuple #[])∧LbS l x.off i∧FrP w' R g' cap' (relF (l.take i) x (l.drop i))∧Chg (fun b=>b=R∨b=g) w w'∧(g'=g∨w.heap.size≤g')
theorem joinF_in {x:Spn}{r:List Spn}(hx:InB x)(hr:∀s∈r,InB s):∀s∈joinF x r,InB s:=by
 cases r with
 |nil=>intro s hs;simp[joinF] at hs;subst hs;exact hx
 |cons t r=>
  have ht:=hr t List.mem_cons_self
  by_cases e:x.off+x.len=t.off
  ·rw[joinF_pos e]
   intro s hs
   rcases List.mem_cons.1 hs with rfl|hs
   ·obtain⟨a,b,c⟩:=hx
    obtain⟨a',b',c'⟩:=ht
    exact⟨a,by show 0≤x.len+t.len;omega,by show x.off+(x.len+t.len)≤50000;omega⟩
   ·exact hr s (List.mem_cons_of_mem _ hs)
  ·rw[joinF_neg e]
   intro s hs
   rcases List.mem_cons.1 hs with rfl|hs
   ·exact hx
   ·exact hr s hs
theorem joinF_short (x:Spn)(r:List Spn):(joinF x r).length≤r.length+1:=by
 cases r with
 |nil=>simp[joinF]
 |cons t r=>
  by_cases e:x.off+x.len=t.off
  ·rw[joinF_pos e];simp
  ·rw[joinF_neg e];simp
theorem relF_snoc (p:List Spn)(q x:Spn)(r:List Spn):∀y r',joinF x r=y::r'→y.off=x.off→relF (p++[q]) x r=p++joinF q (y::r'):=fun y r' ej ey=>by
 unfold relF
 rw[List.getLast?_append]
 simp only[List.getLast?_singleton,Option.some_or]
 rw[ej]
 by_cases c:q.off+q.len=x.off
 ·rw[if_pos c,joinF_pos (by rw[ey];exact c)]
  simp
 ·rw[if_neg c,joinF_neg (by rw[ey];exact c)]
  simp
theorem releaseS (w:World)(R g cap:Nat)(l:List Spn)(x:Spn)(f:FrP w R g cap l)(hs:RunsF 0 l)(hb:l.length≤1000000)(hB:∀s∈l,InB s)(hx:InB x):
  Calls Tryz.prog 73 #[.pointer (some ⟨R,0,none⟩),x.agg] w fun e w'=>RlO w R g l x e w':=by
 have ka:=kept_alloc 0 0 w x.box
 have HX:Hid (AtP (w.alloc x.box) w.heap.size 0 x):=by
  have:=xb_new w x
  exact⟨this.at_ 0 _ rfl,this.at_ 1 _ rfl⟩
 have HK:Hid _:=ka
 have HI:Hid (∀W,Kept 0 0 w W→_):=fun W (kW:Kept 0 0 w W)=>insertS W R g cap l x (f.keepC (kW.chg (S:=fun _=>False)) (fun h=>h) (fun h=>h)) hs hb
 have HJ:Hid (∀W (g' cap':Nat) (p r:List Spn) (s:Spn),FrP W R g' cap' (p++s::r)→(p++s::r).length≤1000001→(∀y∈p++s::r,InB y)→_):=fun W g' cap' p r s F h1 h2=>joinS W R g' cap' p r s F h1 h2
 have HB:Hid _:=hB
 have HXB:Hid _:=hx
 have HFL:Hid (R<w.heap.size∧g<w.heap.size):=⟨f.lt,f.row.lt⟩
 have HLB:Hid _:=hb
 clear f hs hb hB hx ka
 go_enter Tryz.func73,Tryz.ntmps73
 go_upto_region 1 with fail
 generalize w.alloc x.box=w1 at HX HK ⊢
 obtain⟨X,hX⟩:∃X,X=w.heap.size:=⟨_,rfl⟩
 rw[←hX] at HX HFL ⊢
 have HWX:Hid _:=hX
 clear hX
 obtain⟨x0,x1⟩:=HX.out
 rw[Nat.zero_add] at x1
 go_wp2_with fail
 first|(go_region_with (first|(go_at_call 122;refine Calls.mono (HI.out w1.drew (HK.out.trans (kept_drew w1))) ?_;rintro e w2 ⟨i,g',cap',rfl,lb,F2,C2,e2⟩)))|fail
 all_goals
  have hil:=lb.le
  have hp:(l.take i).length=i:=by rw[List.length_take];omega
  have HC2:Hid (Chg (fun b=>b=R∨b=g) w w2):=Chg.andThen (HK.out.trans (kept_drew w1)).chg C2
  have HE2:Hid (g'=g∨X≤g'):=e2.imp id (fun h=>Nat.le_trans (by rw[HWX.out];exact(HK.out.trans (kept_drew w1)).size) h)
  have HJ1:Hid _:=HJ.out w2 g' cap' (l.take i) (l.drop i) x F2 (by have:=HLB.out;rw[List.length_append,List.length_cons,hp,List.length_drop];omega) (fun y hy=>by
   rcases List.mem_append.1 hy with h|h
   ·exact HB.out y (List.mem_of_mem_take h)
   ·rcases List.mem_cons.1 h with rfl|h
    ·exact HXB.out
    ·exact HB.out y (List.mem_of_mem_drop h))
  rw[hp] at HJ1
  have HLL:Hid _:=lb
  have HIL:Hid _:=hil
  have hi0:(i:Int)≤1000000:=by have:=HLB.out;omega
  clear F2 C2 e2 lb HI x0 x1 hp hil
  go_wp2_with fail
  refine Calls.mono HJ1.out ?_
  rintro e w3 ⟨rfl,F3,C3⟩
  have HC3:Hid (Chg (fun b=>b=R∨b=g) w w3):=Chg.new HC2.out C3 (fun b hb h=>by have:=HE2.out;have:=HFL.out;have:=HWX.out;omega)
  have hw1:IntKind.i64.wrap ((i:Int)-1)=(i:Int)-1:=by rw[IntKind.wrap_i64];omega
  clear HJ1 C3 HC2
  rcases i with _|j
  ·have HF3:Hid (FrP w3 R g' cap' (relF (l.take 0) x (l.drop 0))):=F3
   have HN:Hid _:=join_neg w3 R (-1) (by omega)
   clear F3 HJ
   go_wp2_with fail
   refine Calls.mono HN.out ?_
   rintro e w4 ⟨rfl,k4⟩
   go_wp2_with fail
   refine bodyPost_end (v:=.tuple #[]) (by simp[results,Tryz.results73,go_sem]) rfl ?_
   unfold RlO
   exact⟨0,g',cap',rfl,HLL.out,HF3.out.keepC (k4.chg (S:=fun _=>False)) (fun h=>h) (fun h=>h),Chg.andThen HC3.out k4.chg,by have:=HE2.out;have:=HWX.out;omega⟩
  ·have hjl:j<l.length:=HIL.out
   obtain⟨q,hq⟩:∃q,q=l.getD j Spn.zero:=⟨_,rfl⟩
   have htk:l.take (j+1)=l.take j++[q]:=by
    rw[List.take_succ_eq_append_getElem hjl,hq,List.getD_eq_getElem?_getD,List.getElem?_eq_getElem hjl]
    rfl
   obtain⟨y,r',ej,ey⟩:=joinF_form x (l.drop (j+1))
   have hrel:=relF_snoc (l.take j) q x (l.drop (j+1)) y r' ej ey
   rw[htk,ej,List.append_assoc] at F3
   have hjn:=joinF_in (r:=l.drop (j+1)) HXB.out (fun s hs=>HB.out s (List.mem_of_mem_drop hs))
   have hjs:=joinF_short x (l.drop (j+1))
   rw[ej] at hjn hjs
   rw[List.length_cons,List.length_drop] at hjs
   have hpj:(l.take j).length=j:=by rw[List.length_take];omega
   have hqm:q∈l:=by
    rw[hq,List.getD_eq_getElem?_getD,List.getElem?_eq_getElem hjl]
    exact List.getElem_mem _
   have HJ2:Hid _:=HJ.out w3 g' cap' (l.take j) (y::r') q F3 (by have:=HLB.out;rw[List.length_append,List.length_cons,List.length_cons,hpj];omega) (fun z hz=>by
    rcases List.mem_append.1 hz with h|h
    ·exact HB.out z (List.mem_of_mem_take h)
    ·rcases List.mem_cons.1 h with rfl|h
     ·exact HB.out _ hqm
     ·exact hjn z h)
   rw[hpj,←hrel,←htk] at HJ2
   clear F3 HJ hjn hjs hpj hqm hrel htk hjl hq ej ey
   go_wp2_with fail
   refine Calls.mono HJ2.out ?_
   rintro e w4 ⟨rfl,F4,C4⟩
   have HF4:Hid _:=F4
   have HC4:Hid (Chg (fun b=>b=R∨b=g) w w4):=Chg.new HC3.out C4 (fun b hb h=>by have:=HE2.out;have:=HFL.out;have:=HWX.out;omega)
   clear F4 C4
   go_wp2_with fail
   refine bodyPost_end (v:=.tuple #[]) (by simp[results,Tryz.results73,go_sem]) rfl ?_
   unfold RlO
   exact⟨j+1,g',cap',rfl,HLL.out,HF4.out,HC4.out,by have:=HE2.out;have:=HWX.out;omega⟩
end Go.Proofs.YtgamjhpebmmjcaaGreatDoor
