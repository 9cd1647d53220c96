import Derived.Test.YtgamjhpebmmjcaaGreatDoorP09
import Derived.Test.YtgamjhpebmmjcaaGreatDoorP24
import Derived.Test.YtgamjhpebmmjcaaGreatDoorP07
import Derived.Test.YtgamjhpebmmjcaaGreatDoorP05
namespace Go.Proofs.YtgamjhpebmmjcaaGreatDoor
set_option maxRecDepth 100000
set_option maxHeartbeats 40000000
open Go.RowKit Flt
attribute [local go_sem] alloc_drewN setCell_drewN run_store_float
theorem okV_kern {ins:List Int}{vs:List Vl}{i:Nat}(ho:okV ins vs i=true)(h0:(vs.getD i Vl.zero).op≠0)(F:Int→List Nat)(hF:∀o∈opsOf (vs.getD i Vl.zero),((F o).length:Int)=(vs.getD o.toNat Vl.zero).len)(K:Nat):
  (kern (vs.getD i Vl.zero).op (vs.getD i Vl.zero).len (vs.getD i Vl.zero).c K (if 0<cnt (vs.getD i Vl.zero).op then F (vs.getD i Vl.zero).a else[]) (if 1<cnt (vs.getD i Vl.zero).op then F (vs.getD i Vl.zero).b else[]) (if 2<cnt (vs.getD i Vl.zero).op then F (vs.getD i Vl.zero).c else[])).length=(vs.getD i Vl.zero).len.toNat∧1≤(vs.getD i Vl.zero).len.toNat:=by
 have hlen:=of_decide_eq_true (okV_lenB ho)
 unfold okV at ho
 generalize vs.getD i Vl.zero=v at ho hlen hF h0 ⊢
 rw[Bool.and_eq_true,Bool.and_eq_true] at ho
 obtain⟨⟨h1,h2⟩,h3⟩:=ho
 rw[if_neg h0,Bool.and_eq_true] at h3
 have hs:=h3.2
 have hc:=cnt_le v.op
 refine⟨?_,by omega⟩
 rw[kern_len]
 unfold fitB
 rw[h1,Bool.true_and]
 unfold opsOf at hs hF
 rcases (by omega:cnt v.op=0∨cnt v.op=1∨cnt v.op=2∨cnt v.op=3) with e|e|e|e
 ·rw[e] at hs ⊢;exact hs
 ·rw[e] at hs hF ⊢
  simp only[List.take_succ_cons,List.take_zero,List.map_cons,List.map_nil,List.mem_cons,List.not_mem_nil,or_false,forall_eq] at hs hF ⊢
  rw[if_pos (by omega),hF]
  exact hs
 ·rw[e] at hs hF ⊢
  simp only[List.take_succ_cons,List.take_zero,List.map_cons,List.map_nil] at hs hF ⊢
  rw[if_pos (by omega),if_pos (by omega),hF v.a (by simp),hF v.b (by simp)]
  exact hs
 ·rw[e] at hs hF ⊢
  simp only[List.take_succ_cons,List.take_zero,List.map_cons,List.map_nil] at hs hF ⊢
  rw[if_pos (by omega),if_pos (by omega),if_pos (by omega),hF v.a (by simp),hF v.b (by simp),hF v.c (by simp)]
  exact hs
def ofC (us:List Vl)(v:Vl):Bool:=((opsOf v).all fun o=>(us.getD o.toNat Vl.zero).op==1)&&v.op !=0
theorem opsOf_nil {v:Vl}(h:cnt v.op=0):opsOf v=[]:=by unfold opsOf;rw[h];rfl
theorem ofC_foldB {us news:List Vl}{v:Vl}(hL:Lk us news):foldB news v=(ofC us v&&decide (0<cnt v.op)):=by
 unfold foldB ofC
 have e:((opsOf v).all fun o=>(news.getD o.toNat Vl.zero).op==1)=((opsOf v).all fun o=>(us.getD o.toNat Vl.zero).op==1):=by
  congr 1
  funext o
  have:=congrArg Vl.op (hL.at_ o.toNat)
  have e:(us.getD o.toNat Vl.zero).op=(news.getD o.toNat Vl.zero).op:=this
  rw[e]
 rw[e]
 by_cases c:0<cnt v.op
 ·have h0:v.op≠0:=fun h=>by rw[h] at c;exact absurd c (by decide)
  simp[c,h0]
 ·simp[c]
theorem cnt0 {op:Int}(h:0≤op∧op≤13)(hc:¬0<cnt op)(h0:op≠0):op=1:=by
 unfold cnt at hc
 split at hc
 ·omega
 ·split at hc
  ·omega
  ·split at hc
   ·omega
   ·omega
theorem fold_A {us news:List Vl}{v:Vl}(hL:Lk us news)(h:ofC us v=false):foldV news v=v∧v.op≠1:=by
 constructor
 ·unfold foldV
  rw[if_neg (fun c=>by rw[ofC_foldB hL,h] at c;exact absurd c.1 (by simp))]
 ·intro c
  unfold ofC at h
  rw[opsOf_nil (by rw[c];decide),c] at h
  simp at h
def Held (us:List Vl)(Vs:List (List Nat))(i:Nat):Prop:=∀j,j<i→(us.getD j Vl.zero).op=1→same (Vs.getD j []) (List.replicate (us.getD j Vl.zero).len.toNat (us.getD j Vl.zero).k)
theorem held_arg {us news:List Vl}{Vs:List (List Nat)}{v:Vl}{i:Nat}(hL:Lk us news)(hH:Held us Vs i)(ho:∀o∈opsOf v,0≤o∧o<i)(hc:ofC us v=true):∀o∈opsOf v,same (Vs.getD o.toNat []) (argL news o):=by
 intro o h
 have hb:=ho o h
 unfold ofC at hc
 rw[Bool.and_eq_true] at hc
 have h1:=List.all_eq_true.1 hc.1 o h
 rw[beq_iff_eq] at h1
 exact same_trans (hH o.toNat (by omega) h1) (argL_same hL o)
theorem kop_eq (v:Vl)(Vs:List (List Nat)):kop v Vs=kern v.op v.len v.c v.k (if 0<cnt v.op then Vs.getD v.a.toNat [] else[]) (if 1<cnt v.op then Vs.getD v.b.toNat [] else[]) (if 2<cnt v.op then Vs.getD v.c.toNat [] else[]):=rfl
theorem kop_foldR {us news:List Vl}{Vs:List (List Nat)}{v:Vl}{i:Nat}(hL:Lk us news)(hH:Held us Vs i)(ho:∀o∈opsOf v,0≤o∧o<i)(hc:ofC us v=true)(hW:Words Vs)(hkb:Kb news):same (kop v Vs) (foldR news v):=by
 have hA:=held_arg hL hH ho hc
 have c3:=cnt_le v.op
 rw[kop_eq]
 unfold foldR
 refine kern_congr ?_ ?_ ?_ (ite_lt (hW _)) (ite_lt (argL_lt hkb _))
 ·by_cases c:0<cnt v.op
  ·rw[if_pos c,if_pos c];exact hA _ (opsOf_a (by omega))
  ·rw[if_neg c,if_neg c];rfl
 ·by_cases c:1<cnt v.op
  ·rw[if_pos c,if_pos c];exact hA _ (opsOf_b (by omega))
  ·rw[if_neg c,if_neg c];rfl
 ·by_cases c:2<cnt v.op
  ·rw[if_pos c,if_pos c];exact hA _ (opsOf_c (by omega))
  ·rw[if_neg c,if_neg c];rfl
theorem uni_rep {zs:List Nat}{n:Nat}(hu:uni zs=true)(hl:zs.length=n):same zs (List.replicate n (zs.getD 0 0)):=by
 unfold uni at hu
 rw[Bool.and_eq_true] at hu
 unfold same
 rw[List.map_replicate,List.eq_replicate_iff]
 refine⟨by simp[hl],fun b hb=>?_⟩
 obtain⟨x,hx,rfl⟩:=List.mem_map.1 hb
 exact beq_iff_eq.1 (List.all_eq_true.1 hu.2 x hx)
theorem spare_const {ins:List Int}{vs:List Vl}{i:Nat}(h:okV ins vs i=true)(h1:(vs.getD i Vl.zero).op=1):(vs.getD i Vl.zero).a=0∧(vs.getD i Vl.zero).b=0∧(vs.getD i Vl.zero).c=0:=by
 unfold okV at h
 generalize vs.getD i Vl.zero=v at*
 rw[Bool.and_eq_true,Bool.and_eq_true] at h
 have hs:=h.1.2
 unfold spareB at hs
 have e1:cnt v.op=0:=by rw[h1];decide
 have e2:placeB v.op=false:=by rw[h1];decide
 rw[e1,e2,h1] at hs
 refine⟨?_,?_,?_⟩
 ·by_cases c:v.a=0
  ·exact c
  ·simp[c] at hs
 ·by_cases c:v.b=0
  ·exact c
  ·simp[c] at hs
 ·by_cases c:v.c=0
  ·exact c
  ·simp[c] at hs
theorem kern_const {len C:Int}{K:Nat}{n:Nat}(h:(kern 1 len C K [] [] []).length=n):kern 1 len C K [] [] []=List.replicate n K:=by
 subst h
 unfold kern
 split
 ·rw[List.eq_replicate_iff]
  refine⟨rfl,fun b hb=>?_⟩
  obtain⟨x,_,rfl⟩:=List.mem_map.1 hb
  unfold elem
  rw[if_pos rfl]
 ·rfl
theorem fold_Z {ins:List Int}{us news vs:List Vl}{Vs:List (List Nat)}{i:Nat}{zs:List Nat}(hok:okV ins vs i=true)(hL:Lk us news)(hH:Held us Vs i)(hc:ofC us (vs.getD i Vl.zero)=true)(hW:Words Vs)(hkb:Kb news)(hlen:∀j,j<i→(us.getD j Vl.zero).len=(vs.getD j Vl.zero).len)(hlen1:∀j,j<i→0≤(us.getD j Vl.zero).len)(hz:same zs (kop (vs.getD i Vl.zero) Vs)):
  zs.length=(vs.getD i Vl.zero).len.toNat∧1≤zs.length∧(uni zs=true→cv ⟨1,(vs.getD i Vl.zero).len,0,0,0,zs.getD 0 0⟩=cv (foldV news (vs.getD i Vl.zero))∧same (kop (vs.getD i Vl.zero) Vs) (List.replicate (vs.getD i Vl.zero).len.toNat (zs.getD 0 0)))∧(uni zs=false→foldV news (vs.getD i Vl.zero)=vs.getD i Vl.zero∧(vs.getD i Vl.zero).op≠1):=by
 have ho:=okV_ops hok
 have hr:=okV_opR hok
 have h0:(vs.getD i Vl.zero).op≠0:=fun c=>by
  unfold ofC at hc
  rw[c] at hc
  simp at hc
 have hkl:=okV_kern hok h0 (fun o=>Vs.getD o.toNat []) (fun o h=>by
  have hb:=ho o h
  have hs:=same_len (held_arg hL hH ho hc o h)
  rw[hs]
  have e:(news.getD o.toNat Vl.zero).len=(us.getD o.toNat Vl.zero).len:=(congrArg Vl.len (hL.at_ o.toNat)).symm
  unfold argL
  rw[List.length_replicate,e,←hlen o.toNat (by omega)]
  have:=hlen1 o.toNat (by omega)
  omega) (vs.getD i Vl.zero).k
 rw[←kop_eq] at hkl
 have hzl:zs.length=(vs.getD i Vl.zero).len.toNat:=by rw[same_len hz];exact hkl.1
 have hk:=kop_foldR hL hH ho hc hW hkb
 have hsc:=spare_const hok
 generalize vs.getD i Vl.zero=v at*
 refine⟨hzl,by omega,fun hu=>⟨?_,?_⟩,fun hu=>?_⟩
 ·have hf:=same_trans hz hk
  by_cases cp:0<cnt v.op
  ·have hb:foldB news v=true:=by rw[ofC_foldB hL,hc];simpa using cp
   have hu2:uni (foldR news v)=true:=by rw[←uni_congr hf];exact hu
   unfold foldV
   rw[if_pos ⟨hb,hu2⟩]
   unfold cv
   simp only
   rw[same_at hf 0]
  ·have h1:=cnt0 hr cp h0
   have hb:foldB news v=false:=by rw[ofC_foldB hL];simp[cp]
   unfold foldV
   rw[if_neg (fun c=>by rw[hb] at c;exact absurd c.1 (by simp))]
   obtain⟨e1,e2,e3⟩:=hsc h1
   have e4:fb (zs.getD 0 0)=fb v.k:=by
    rw[same_at hz 0,kop_eq,if_neg cp,if_neg (by omega),if_neg (by omega),h1]
    have hq:=hkl.1
    rw[kop_eq,if_neg cp,if_neg (by omega),if_neg (by omega),h1] at hq
    rw[kern_const hq]
    have:0<v.len.toNat:=by omega
    rw[List.getD_eq_getElem?_getD,List.getElem?_replicate,if_pos this]
    rfl
   unfold cv
   simp only
   rw[h1,e1,e2,e3,e4]
 ·exact same_trans (same_symm hz) (uni_rep hu hzl)
 ·have hf:=same_trans hz hk
  by_cases cp:0<cnt v.op
  ·unfold foldV
   rw[if_neg (fun c=>by rw[←uni_congr hf,hu] at c;exact absurd c.2 (by simp))]
   exact⟨rfl,fun c=>by rw[c] at cp;exact absurd cp (by decide)⟩
  ·exfalso
   have h1:=cnt0 hr cp h0
   have hq:=hkl.1
   rw[kop_eq,if_neg cp,if_neg (by omega),if_neg (by omega),h1] at hq hz
   rw[kern_const hq] at hz
   rw[uni_congr hz] at hu
   unfold uni at hu
   have:0<v.len.toNat:=by omega
   rw[List.length_replicate,List.all_eq_true.2 (fun x hx=>by
    rw[List.eq_of_mem_replicate hx,List.getD_eq_getElem?_getD,List.getElem?_replicate,if_pos this];simp)] at hu
   simp[this] at hu
theorem isOfConstants (w:World)(v:Vl)(g n c:Nat)(us:List Vl)(h:VA w g n us)(ho:∀o∈opsOf v,0≤o∧o<n):
  Calls Tryz.prog 108 #[v.agg,.slice (some ⟨g,0,none⟩) n c] w fun e w'=>e=.returned (.bool (ofC us v))∧Kept 0 0 w w':=by
 have hc3:=cnt_le v.op
 have k0:=kept_alloc 0 0 w (vbox v.op v.len v.a v.b v.c v.k)
 have HX:Hid (At (w.alloc (vbox v.op v.len v.a v.b v.c v.k)) w.heap.size 0 v):=vbox_atJ w v
 have HV:Hid _:=h.keep k0 (.inr (.inr (Nat.le_refl _)))
 have HK:Hid _:=k0
 have HO:Hid _:=ho
 have HZ:Hid (w.heap.size<(w.alloc (vbox v.op v.len v.a v.b v.c v.k)).heap.size):=by show _<_;simp
 clear h ho k0
 obtain⟨x0,x1,x2,x3,x4,x5⟩:=HX.out
 go_enter Tryz.func108,Tryz.ntmps108
 go_wp2_with fail
 clear x0 x1 x2 x3 x4 x5
 generalize w.alloc (vbox v.op v.len v.a v.b v.c v.k)=w1 at HX HV HK HZ ⊢
 refine Calls.mono (operandsOf w1 v) ?_
 rintro e w2 ⟨gq,rfl,hI,hgq,k2⟩
 have HX2:Hid _:=HX.out.keep HZ.out k2 (.inr (.inr (Nat.le_refl _)))
 have HV2:Hid _:=HV.out.keep k2 (.inr (.inr (Nat.le_refl _)))
 have HK2:Hid _:=HK.out.trans k2
 have HI:Hid _:=hI
 clear hI hgq k2 HX HV HK
 go_wp2_with fail
 go_loop [10] (fun x=>∃q:Nat,q≤cnt v.op∧x=.int .i64 q∧Hid (((opsOf v).take q).all (fun o=>(us.getD o.toNat Vl.zero).op==1)=true)) (fun x=>cnt v.op-(intOf x).toNat)
 case atStart=>exact⟨0,Nat.zero_le _,rfl,rfl⟩
 case round=>
  obtain⟨q,hq,rfl,hA⟩:=hrel
  by_cases hql:q<cnt v.op
  ·have hql':q<(opsOf v).length:=by rw[opsOf_len];exact hql
   have hob:=HO.out _ (getD_memJ hql')
   obtain⟨m,em,hm⟩:∃m:Nat,(opsOf v).getD q 0=m∧m<n:=⟨((opsOf v).getD q 0).toNat,by omega,by omega⟩
   obtain⟨ga,oa,ka,ea,eq1,_,_,c1'⟩:=HI.out.at_idx (o:=q) (by omega) (by omega)
   cases ea
   rw[Int.toNat_natCast,em,Nat.zero_add] at c1'
   obtain rfl:q=ka:=by omega
   have c2':=(HV2.out.at_ m hm).c0
   cases t:((us.getD m Vl.zero).op !=1)
   ·have R:Hid (((opsOf v).take (q+1)).all (fun o=>(us.getD o.toNat Vl.zero).op==1)=true):=by
     show _=_
     rw[List.take_succ_eq_append_getElem hql',List.all_append,hA.out]
     have e2:(opsOf v)[q]=(m:Int):=by rw[←em,List.getD_eq_getElem?_getD,List.getElem?_eq_getElem hql'];rfl
     rw[e2]
     simpa using t
    generalize (us.getD m Vl.zero).op=y at c2' t
    clear hob em hql' hA
    go_wp2
    go_round
    case rel=>exact⟨q+1,by omega,by go_num,R⟩
    case measure=>simp[intOf];omega
   ·have R:Hid (ofC us v=false):=by
     show _=_
     unfold ofC
     rw[List.all_eq_false.2 ⟨_,getD_memJ hql',by rw[em,Int.toNat_natCast];simpa using t⟩]
     rfl
    generalize (us.getD m Vl.zero).op=y at c2' t
    clear hob em hql' hA
    go_wp2
    go_ret
    exact⟨by rw[R.out];rfl,HK2.out⟩
  ·obtain rfl:q=cnt v.op:=by omega
   have R:Hid (ofC us v=(v.op !=0)):=by
    show _=_
    have:=hA.out
    rw[List.take_of_length_le (by rw[opsOf_len];omega)] at this
    unfold ofC
    rw[this,Bool.true_and]
   obtain⟨x0,x1,x2,x3,x4,x5⟩:=HX2.out
   clear hA
   go_wp2
   go_ret
   exact⟨by rw[R.out];rfl,HK2.out⟩
theorem allSame (w:World)(lo hi:Nat)(a:Option Addr)(n c:Nat)(zs:List Nat)(f:FS w lo hi a n zs)(hn:1≤n)(hn2:n≤1000):
  Calls Tryz.prog 110 #[.slice a n c] w fun e w'=>e=.returned (.bool (uni zs))∧w=w':=by
 rcases f.at_ with z|⟨g,off,rfl,_,_,_,hc⟩
 ·omega
 have HF:Hid _:=hc
 have HL:Hid (zs.length=n):=f.len
 have c0:=hc 0 (by omega)
 rw[Nat.add_zero] at c0
 have HS:Hid (∀x w,Calls Tryz.prog 142 #[.float .f64 x,.float .f64 (zs.getD 0 0)] w fun e w'=>e=.returned (.bool (fb x==fb (zs.getD 0 0)))∧w'=w):=fun x w=>(implSame x _ w).mono fun _ _ h=>⟨by rw[h.1,nat_beq],h.2⟩
 clear hc f
 go_enter Tryz.func110,Tryz.ntmps110
 go_wp2_with fail
 go_loop [7] (fun x=>∃k:Nat,k≤n∧x=.int .i64 k∧Hid ((zs.take k).all (fun x=>fb x==fb (zs.getD 0 0))=true)) (fun x=>n-(intOf x).toNat)
 case atStart=>exact⟨0,Nat.zero_le _,rfl,rfl⟩
 case round=>
  obtain⟨k,hk,rfl,hA⟩:=hrel
  by_cases hlt:k<n
  ·have hlt':k<zs.length:=by rw[HL.out];exact hlt
   have c1:=HF.out k hlt
   have HI:Hid _:=HS.out (zs.getD k 0)
   cases t:(fb (zs.getD k 0)==fb (zs.getD 0 0))
   ·have R:Hid (uni zs=false):=by
     show _=_
     unfold uni
     rw[List.all_eq_false.2 ⟨zs.getD k 0,by rw[List.getD_eq_getElem?_getD,List.getElem?_eq_getElem hlt'];exact List.getElem_mem _,by rw[t];simp⟩,Bool.and_false]
    rw[t] at HI
    generalize zs.getD k 0=x at c1 HI
    generalize zs.getD 0 0=x0 at c0 HI
    clear t hA HS
    go_wp2_with ((go_at_call 142;refine Calls.mono (HI.out _) ?_;rintro e w2 ⟨rfl,rfl⟩))
    go_ret
    exact⟨by rw[R.out];rfl,rfl⟩
   ·have R:Hid ((zs.take (k+1)).all (fun x=>fb x==fb (zs.getD 0 0))=true):=by
     show _=_
     rw[List.take_succ_eq_append_getElem hlt',List.all_append,hA.out]
     rw[List.getD_eq_getElem?_getD,List.getElem?_eq_getElem hlt'] at t
     simpa using t
    rw[t] at HI
    generalize zs.getD k 0=x at c1 HI
    clear t hA HS
    generalize zs.getD 0 0=x0 at c0 HI R
    go_wp2_with ((go_at_call 142;refine Calls.mono (HI.out _) ?_;rintro e w2 ⟨rfl,rfl⟩))
    go_round
    case rel=>exact⟨k+1,by omega,by go_num,R⟩
    case measure=>simp[intOf];omega
  ·obtain rfl:k=n:=by omega
   have R:Hid (uni zs=true):=by
    show _=_
    have:=hA.out
    rw[List.take_of_length_le (by rw[HL.out];omega)] at this
    unfold uni
    rw[this,HL.out]
    simp
    omega
   clear hA
   go_wp2
   go_ret
   exact⟨by rw[R.out];rfl,rfl⟩
end Go.Proofs.YtgamjhpebmmjcaaGreatDoor
namespace Go.Proofs.YtgamjhpebmmjcaaGreatDoor
set_option maxRecDepth 100000
set_option maxHeartbeats 40000000
open Go.RowKit Flt
attribute [local go_sem] alloc_drewN setCell_drewN run_store_float
theorem Cn.keepR {w w':World}{lo l h:Nat}{v:Value}{xs:List Nat}(f:Cn w lo v xs)(k:Kept l h w w')(hl:h≤lo∨h≤l):Cn w' lo v xs:=by
 obtain⟨b,n,c,zs,h1,h2,h3,h4⟩:=f
 exact⟨b,n,c,zs,h1,h2,(h3.keep k (by omega)).mono (Nat.le_refl _) k.size,h4⟩
theorem Cn.setS {w:World}{lo:Nat}{y:Value}{xs:List Nat}(f:Cn w lo y xs){g k:Nat}{u:Value}(hc:w.cell? ⟨g,k,none⟩=some u)(hu:∀x,u≠.float .f64 x)(v:Value):Cn (w.setCell ⟨g,k,none⟩ v) lo y xs:=by
 obtain⟨b,n,c,zs,h1,h2,h3,h4⟩:=f
 exact⟨b,n,c,zs,h1,h2,(h3.setS hc hu v).mono (Nat.le_refl _) (by simp),h4⟩
theorem Cn.low {w:World}{lo lo':Nat}{y:Value}{xs:List Nat}(f:Cn w lo y xs)(h:lo'≤lo):Cn w lo' y xs:=by
 obtain⟨b,n,c,zs,h1,h2,h3,h4⟩:=f
 exact⟨b,n,c,zs,h1,h2,h3.mono h (Nat.le_refl _),h4⟩
structure LW (w:World)(lo g n:Nat)(Vs:List (List Nat)):Prop where
 lt:g<w.heap.size
 len:Vs.length=n
 free:∀o,w.frozen? ⟨g,o,none⟩=false
 at_:∀j,j<n→∃b m c,w.cell? ⟨g,j,none⟩=some (.slice b m c)∧Cn w lo (.slice b m c) (Vs.getD j [])
theorem LW.lv {w:World}{lo g n:Nat}{Vs:List (List Nat)}(f:LW w lo g n Vs):LV w g n n Vs:=
 ⟨f.lt,f.free,fun j hj=>by
  obtain⟨b,m,c,h1,h2⟩:=f.at_ j hj
  exact⟨b,m,c,h1,fun _=>h2.cl⟩⟩
theorem LW.keepR {w w':World}{lo g n l h:Nat}{Vs:List (List Nat)}(f:LW w lo g n Vs)(k:Kept l h w w')(hl:h≤lo∨h≤l)(hg:g<l∨h≤g∨h≤l):LW w' lo g n Vs:=
 ⟨Nat.lt_of_lt_of_le f.lt k.size,f.len,fun o=>by rw[k.frozen (p:=⟨g,o,none⟩) f.lt (by simp only;omega)];exact f.free o,fun j hj=>by
  obtain⟨b,m,c,h1,h2⟩:=f.at_ j hj
  exact⟨b,m,c,by rw[k.cell (p:=⟨g,j,none⟩) f.lt (by simp only;omega)];exact h1,h2.keepR k hl⟩⟩
theorem LW.made (w:World)(n lo:Nat):LW (w.alloc (.cells (madeCells #[.slice none 0 0] n) 33)) lo w.heap.size n (List.replicate n []) where
 lt:=by simp
 len:=by simp
 free:=fun o=>by simp
 at_:=fun j hj=>by
  rw[World.cell?_alloc_new]
  refine⟨none,0,0,?_,?_⟩
  ·simp only[madeCells]
   rw[Array.getElem?_map,Array.getElem?_range,if_pos hj]
   have hm:j%1=0:=Nat.mod_one j
   simp[hm]
  ·rw[List.getD_eq_getElem?_getD,List.getElem?_replicate,if_pos hj]
   exact⟨none,0,0,[],rfl,Nat.le_refl _,⟨rfl,by simp,.inl rfl⟩,rfl⟩
theorem LW.put {w:World}{lo g n j:Nat}{Vs:List (List Nat)}(f:LW w lo g n Vs)(hj:j<n){b:Option Addr}{m c:Nat}{x:List Nat}(hu:Cn w lo (.slice b m c) x):LW (w.setCell ⟨g,j,none⟩ (.slice b m c)) lo g n (Vs.set j x):=by
 obtain⟨b0,m0,c0,hc,_⟩:=f.at_ j hj
 refine⟨by simpa using f.lt,by rw[List.length_set];exact f.len,fun o=>by simp[f.free o],fun i hi=>?_⟩
 by_cases e:i=j
 ·subst e
  refine⟨b,m,c,cell_eq _ _ _ _ _ hc,?_⟩
  rw[List.getD_eq_getElem?_getD,List.getElem?_set,if_pos rfl,if_pos (by rw[f.len];exact hi)]
  exact hu.setS hc (not_float_slice _ _ _) _
 ·obtain⟨b1,m1,c1,h1,h2⟩:=f.at_ i hi
  refine⟨b1,m1,c1,by rw[cell_ne _ _ _ _ _ _ (.inr (Ne.symm e))];exact h1,?_⟩
  rw[List.getD_eq_getElem?_getD,List.getElem?_set,if_neg (Ne.symm e),←List.getD_eq_getElem?_getD]
  exact h2.setS hc (not_float_slice _ _ _) _
structure FI (W w1:World)(g2 L n2 i:Nat)(vs us:List Vl)(Vs:List (List Nat)):Prop where
 va:VA W g2 n2 (us++vs.drop i)
 len:us.length=i
 lk:Lk us (foldSt vs i)
 kb:Kb us
 lw:LW W w1.heap.size L n2 Vs
 wd:Words Vs
 hd:Held us Vs i
 ch:Chg (fun b=>b=g2∨b=L) w1 W
theorem words_set {Vs:List (List Nat)}(h:Words Vs)(i:Nat){x:List Nat}(hx:∀q∈x,q<18446744073709551616):Words (Vs.set i x):=by
 intro k q hq
 rw[List.getD_eq_getElem?_getD,List.getElem?_set] at hq
 split at hq
 ·split at hq
  ·exact hx q hq
  ·simp at hq
 ·rw[←List.getD_eq_getElem?_getD] at hq
  exact h k q hq
theorem held_snoc {us:List Vl}{Vs:List (List Nat)}{i:Nat}{v:Vl}(h:Held us Vs i)(hl:us.length=i)(hv:v.op≠1):Held (us++[v]) Vs (i+1):=by
 intro j hj ho
 by_cases c:j<i
 ·rw[getD_fstV _ _ (by omega)] at ho ⊢
  exact h j c ho
 ·have:j=us.length:=by omega
  subst this
  rw[getD_lastV] at ho
  exact absurd ho hv
theorem held_put {us:List Vl}{Vs:List (List Nat)}{i:Nat}{v:Vl}{x:List Nat}(h:Held us Vs i)(hl:us.length=i)(hi:i<Vs.length)(hx:same x (List.replicate v.len.toNat v.k)):Held (us++[v]) (Vs.set i x) (i+1):=by
 intro j hj ho
 rw[List.getD_eq_getElem?_getD (l:=Vs.set i x),List.getElem?_set]
 by_cases c:j<i
 ·rw[getD_fstV _ _ (by omega)] at ho ⊢
  rw[if_neg (by omega),←List.getD_eq_getElem?_getD]
  exact h j c ho
 ·have:j=us.length:=by omega
  subst this
  rw[getD_lastV] at ho ⊢
  rw[if_pos hl.symm,if_pos hi]
  exact hx
theorem drop_app {us vs:List Vl}{i:Nat}(hi:i<vs.length):us++vs.drop i=(us++[vs.getD i Vl.zero])++vs.drop (i+1):=by
 rw[drop_cons hi];simp
theorem FI.stay {W W' w1:World}{g2 L n2 i:Nat}{vs us:List Vl}{Vs:List (List Nat)}(f:FI W w1 g2 L n2 i vs us Vs)(k:Kept 0 0 W W')(hi:i<vs.length)(hkb:Kb vs)(h1:foldV (foldSt vs i) (vs.getD i Vl.zero)=vs.getD i Vl.zero)(h2:(vs.getD i Vl.zero).op≠1):FI W' w1 g2 L n2 (i+1) vs (us++[vs.getD i Vl.zero]) Vs where
 va:=by rw[←drop_app hi];exact f.va.keep k (.inr (.inr (Nat.le_refl _)))
 len:=by rw[List.length_append,f.len];rfl
 lk:=by rw[foldSt,h1];exact f.lk.app rfl
 kb:=f.kb.app (hkb.at_ i)
 lw:=f.lw.keepR k (.inr (Nat.le_refl _)) (.inr (.inr (Nat.le_refl _)))
 wd:=f.wd
 hd:=held_snoc f.hd f.len h2
 ch:=Chg.trans f.ch k.chg
theorem ofC_app {us R:List Vl}{v:Vl}(h:∀o∈opsOf v,0≤o∧o<us.length):ofC (us++R) v=ofC us v:=by
 unfold ofC
 congr 1
 rw[Bool.eq_iff_iff,List.all_eq_true,List.all_eq_true]
 have key:∀o∈opsOf v,(us++R).getD o.toNat Vl.zero=us.getD o.toNat Vl.zero:=fun o ho=>by
  have:=h o ho
  rw[List.getD_eq_getElem?_getD,List.getElem?_append_left (by omega),←List.getD_eq_getElem?_getD]
 constructor
 ·intro q o ho;rw[←key o ho];exact q o ho
 ·intro q o ho;rw[key o ho];exact q o ho
theorem FI.put {W W' W'' w1:World}{g2 L n2 i:Nat}{vs us:List Vl}{Vs:List (List Nat)}{nv:Vl}{b:Option Addr}{m c:Nat}{x:List Nat}(f:FI W w1 g2 L n2 i vs us Vs)(k:Kept 0 0 W W')(k':Kept 0 0 (put6 W' g2 (i*6) nv) W'')(hi:i<n2)(hvl:vs.length=n2)(hg:g2<w1.heap.size)(hgL:g2≠L)(hcn:Cn W' w1.heap.size (.slice b m c) x)
  (h1:cv nv=cv (foldV (foldSt vs i) (vs.getD i Vl.zero))) (hk:nv.k<18446744073709551616) (hx:∀q∈x,q<18446744073709551616) (hs:same x (List.replicate nv.len.toNat nv.k)):
  LW W'' w1.heap.size L n2 Vs∧FI (W''.setCell ⟨L,i,none⟩ (.slice b m c)) w1 g2 L n2 (i+1) vs (us++[nv]) (Vs.set i x):=by
 have kp:=put6_kept W' g2 (i*6) nv
 have lw2:LW W'' w1.heap.size L n2 Vs:=((f.lw.keepR k (.inr (Nat.le_refl _)) (.inr (.inr (Nat.le_refl _)))).keepR kp (.inl (by omega)) (by omega)).keepR k' (.inr (Nat.le_refl _)) (.inr (.inr (Nat.le_refl _)))
 have cn2:=(hcn.keepR kp (.inl (by omega))).keepR k' (.inr (Nat.le_refl _))
 have va2:=((f.va.keep k (.inr (.inr (Nat.le_refl _)))).step i hi nv).keep k' (.inr (.inr (Nat.le_refl _)))
 rw[mid_set f.len (by omega)] at va2
 have kq:=kept_setCell (lo:=L) (hi:=L+1) W'' ⟨L,i,none⟩ (.slice b m c) (.inl ⟨Nat.le_refl _,Nat.lt_succ_self _⟩)
 refine⟨lw2,⟨va2.keep kq (by omega),by rw[List.length_append,f.len];rfl,by rw[foldSt];exact f.lk.app h1,f.kb.app hk,lw2.put hi cn2,words_set f.wd i hx,held_put f.hd f.len (by rw[f.lw.len];exact hi) hs,?_⟩⟩
 exact Chg.trans f.ch (Chg.trans k.chg (Chg.trans (kp.chg1 (.inl rfl)) (Chg.trans k'.chg (kq.chg1 (.inr rfl)))))
end Go.Proofs.YtgamjhpebmmjcaaGreatDoor
namespace Go.Proofs.YtgamjhpebmmjcaaGreatDoor
set_option maxRecDepth 100000
set_option maxHeartbeats 40000000
open Go.RowKit Flt
attribute [local go_sem] alloc_drewN setCell_drewN run_store_float
attribute [local go_sem] run_store_func
theorem allIdxO (w:World)(g off m cap:Nat)(n:Int)(xs:List Int)(hx:xs.length=m)(hm:m≤1000)(hc:∀k,k<m→w.cell? ⟨g,off+k,none⟩=some (.int .i64 (xs.getD k 0))):
  Calls Tryz.prog 37 #[.int .i64 n,.slice (some ⟨g,off,none⟩) m cap] w fun e w'=>e=.returned (.bool (xs.all (idxB · n)))∧w=w':=by
 have HC:Hid _:=hc
 have HX:Hid (xs.length=m):=hx
 clear hc hx
 go_enter Tryz.func37,Tryz.ntmps37
 go_wp2_with fail
 go_loop [9] (fun i=>∃k:Nat,k≤m∧i=.int .i64 k∧Hid ((xs.take k).all (idxB · n)=true)) (fun i=>m-(intOf i).toNat)
 case atStart=>exact⟨0,Nat.zero_le _,rfl,rfl⟩
 case round=>
  obtain⟨k,hk,rfl,hA⟩:=hrel
  by_cases hlt:k<m
  ·have c:=HC.out k hlt
   cases t:idxB (xs.getD k 0) n
   ·have R:Hid (xs.all (idxB · n)=false):=by
     show _=_
     rw[List.all_eq_false]
     exact⟨xs.getD k 0,getD_memJ (by rw[HX.out];exact hlt),by show ¬idxB _ _=true;rw[t];decide⟩
    have HI:Hid _:=isIndex_any (xs.getD k 0) n w
    rw[t] at HI
    generalize xs.getD k 0=x at c HI
    clear t
    go_wp2_with fail
    refine Calls.mono HI.out ?_
    rintro e w2 ⟨rfl,hw⟩
    have R3:Hid (w=w2):=hw.symm
    clear hw
    go_wp2
    go_ret
    exact⟨by rw[R.out];rfl,R3.out⟩
   ·have R:Hid ((xs.take (k+1)).all (idxB · n)=true):=by
     show _=_
     rw[List.take_succ_eq_append_getElem (by rw[HX.out];exact hlt),List.all_append,hA.out]
     rw[List.getD_eq_getElem?_getD,List.getElem?_eq_getElem (by rw[HX.out];exact hlt)] at t
     simpa using t
    have HI:Hid _:=isIndex_any (xs.getD k 0) n w
    rw[t] at HI
    generalize xs.getD k 0=x at c HI
    clear t
    go_wp2_with fail
    refine Calls.mono HI.out ?_
    rintro e w2 ⟨rfl,rfl⟩
    go_wp2
    go_round
    case rel=>exact⟨k+1,by omega,by go_num,R⟩
    case measure=>simp[intOf];omega
  ·obtain rfl:k=m:=by omega
   have R:Hid (xs.all (idxB · n)=true):=by
    have:=hA.out
    rw[List.take_of_length_le (by rw[HX.out];omega)] at this
    exact this
   clear hA
   go_wp2
   go_ret
   exact⟨by rw[R.out];rfl,rfl⟩
theorem allIdxZ (w:World)(a:Option Addr)(cap:Nat)(n:Int):Calls Tryz.prog 37 #[.int .i64 n,.slice a 0 cap] w fun e w'=>e=.returned (.bool true)∧w=w':=by
 go_enter Tryz.func37,Tryz.ntmps37
 go_wp2_with fail
 refine wp_loop_rounds 1 ?_
 rw[rounds_succ]
 go_wp2
 go_ret
 exact⟨rfl,rfl⟩
theorem allIdxS (w:World)(lo hi:Nat)(a:Option Addr)(m cap:Nat)(n:Int)(xs:List Int)(f:IS w lo hi a m xs)(hm:m≤1000):Calls Tryz.prog 37 #[.int .i64 n,.slice a m cap] w fun e w'=>e=.returned (.bool (xs.all (idxB · n)))∧w=w':=by
 rcases f.at_ with z|⟨g,off,rfl,_,_,_,hc⟩
 ·subst z
  have:xs=[]:=List.length_eq_zero_iff.1 f.len
  subst this
  exact allIdxZ w a cap n
 ·exact allIdxO w g off m cap n xs f.len hm hc
structure AP (W:World)(A:Nat):Prop where
 lt:A<W.heap.size
 p0:W.cell? ⟨A,0,none⟩=some (.func (.func 64) #[] #[])
 p1:W.cell? ⟨A,1,none⟩=some (.func (.func 65) #[] #[])
 p2:W.cell? ⟨A,2,none⟩=some (.func (.func 66) #[] #[])
 p3:W.cell? ⟨A,3,none⟩=some (.func (.func 67) #[] #[])
 p4:W.cell? ⟨A,4,none⟩=some (.func (.func 68) #[] #[])
theorem AP.keepC {W W':World}{S:Nat→Prop}{A:Nat}(t:AP W A)(k:Chg S W W')(hd:¬S A):AP W' A:=by
 have e:∀o,W'.cell? ⟨A,o,none⟩=W.cell? ⟨A,o,none⟩:=fun o=>k.cell (p:=⟨A,o,none⟩) t.lt hd
 exact⟨Nat.lt_of_lt_of_le t.lt k.size,by rw[e];exact t.p0,by rw[e];exact t.p1,by rw[e];exact t.p2,by rw[e];exact t.p3,by rw[e];exact t.p4⟩
abbrev apagg:Value:=.agg #[.func (.func 64) #[] #[],.func (.func 65) #[] #[],.func (.func 66) #[] #[],.func (.func 67) #[] #[],.func (.func 68) #[] #[]]
abbrev apbox:Obj:=.cells #[.func (.func 64) #[] #[],.func (.func 65) #[] #[],.func (.func 66) #[] #[],.func (.func 67) #[] #[],.func (.func 68) #[] #[]] 82
theorem ap_start (w:World):AP (w.alloc apbox) w.heap.size:=by
 refine⟨?_,?_,?_,?_,?_,?_⟩
 all_goals first|(go_simp;done)|(simp;done)
theorem allPasses (w:World):Calls Tryz.prog 38 #[] w fun e w'=>e=.returned apagg∧Kept 0 0 w w':=by
 go_enter Tryz.func38,Tryz.ntmps38
 go_wp2
 refine bodyPost_ret (v:=apagg) (by simp[results,Tryz.results38,go_sem]) rfl ⟨rfl,?_⟩
 exact kept_alloc _ _ _ _
abbrev Put3O (w:World)(g:Nat)(x y z:Value):World:=((w.setCell ⟨g,0,none⟩ x).setCell ⟨g,1,none⟩ y).setCell ⟨g,2,none⟩ z
end Go.Proofs.YtgamjhpebmmjcaaGreatDoor
namespace Go.Proofs.YtgamjhpebmmjcaaGreatDoor
set_option maxRecDepth 100000
set_option maxHeartbeats 40000000
open Go.RowKit Flt
attribute [local go_sem] alloc_drewN setCell_drewN run_store_float run_store_func
theorem passM_0 (vs:List Vl)(outs:List Int):deadM vs outs=passM 0 vs outs:=by unfold passM;rw[if_pos rfl]
theorem passM_2 (vs:List Vl)(outs:List Int):(foldSt vs vs.length,outs)=passM 2 vs outs:=by unfold passM;rw[if_neg (by decide:¬(2:Int)=0),if_pos (rfl:(2:Int)=2)]
end Go.Proofs.YtgamjhpebmmjcaaGreatDoor
