import Derived.Test.YtgamjhpebmmjcaaGreatDoorP12
import Derived.Test.YtgamjhpebmmjcaaGreatDoorP23
import Derived.Test.YtgamjhpebmmjcaaGreatDoorP29
import Derived.Test.YtgamjhpebmmjcaaGreatDoorP22
import Derived.Test.YtgamjhpebmmjcaaGreatDoorP49
import Derived.Test.YtgamjhpebmmjcaaGreatDoorP47
import Derived.Test.YtgamjhpebmmjcaaGreatDoorP37
namespace Go.Proofs.YtgamjhpebmmjcaaGreatDoor
set_option maxRecDepth 100000
set_option maxHeartbeats 40000000
open Go.RowKit Flt
theorem runE_eq {p:Int→Bool}{t:List UInt8}:∀(d i:Nat),i+d≤t.length→(∀k,i≤k→k<i+d→p (bt t k)=true)→(i+d<t.length→p (bt t (i+d))=false)→runE p t i=i+d
 |0,i,_,_,h=>runE_stop (fun c=>by have:=h c.1;rw[Nat.add_zero,c.2] at this;cases this)
 |d+1,i,hl,ha,h=>by
  rw[runE_go (by omega) (ha i (Nat.le_refl _) (by omega)),runE_eq d (i+1) (by omega) (fun k h1 h2=>ha k (by omega) (by omega)) (by rw[show i+1+d=i+(d+1) by omega];exact h)]
  omega
theorem bt_app {a b:List UInt8}{k j:Nat}(h:k=a.length+j):bt (a++b) k=bt b j:=by
 subst h
 unfold bt
 rw[List.getD_eq_getElem?_getD,List.getD_eq_getElem?_getD,List.getElem?_append_right (by omega),Nat.add_sub_cancel_left]
theorem bt_pre {a b:List UInt8}{k:Nat}(h:k<a.length):bt (a++b) k=bt a k:=by
 unfold bt
 rw[List.getD_eq_getElem?_getD,List.getD_eq_getElem?_getD,List.getElem?_append_left h]
theorem cut_app (a s b:List UInt8){i j:Nat}(hi:i=a.length)(hj:j=a.length+s.length):cutT (a++(s++b)) i j=s:=by
 subst hi hj
 unfold cutT
 rw[List.drop_left,Nat.add_sub_cancel_left,List.take_left]
structure NxW (t:List UInt8)(i:Nat)(k:Tok)(j:Nat):Prop where
 lt:i<t.length
 tk:nxT t i=k
 en:nxE t i=j
 sy:k.sym≠[]
theorem NxW.go {t:List UInt8}{i j m:Nat}{k:Tok}(h:NxW t i k j)(hs:skM t j=m):toksM t i=k::toksM t m:=by
 rw[toksM_go h.lt (by rw[h.tk];exact h.sy),h.tk,h.en,hs]
theorem nx_out (a b:List UInt8):NxW (a++([111,117,116]++(32::b))) a.length ⟨[111,117,116],a.length,[111,117,116]⟩ (a.length+3):=by
 have b0:bt (a++([111,117,116]++(32::b))) a.length=111:=(bt_app (k:=a.length) (j:=0) rfl).trans rfl
 have hr:runE wrdB (a++([111,117,116]++(32::b))) a.length=a.length+3:=by
  refine runE_eq 3 _ (by simp) (fun k h1 h2=>?_) (fun _=>?_)
  ·obtain⟨j,rfl⟩:∃j,k=a.length+j:=⟨k-a.length,by omega⟩
   rw[bt_app rfl]
   have:j=0∨j=1∨j=2:=by omega
   rcases this with rfl|rfl|rfl<;>rfl
  ·rw[bt_app rfl];rfl
 refine⟨by simp,?_,?_,by simp⟩
 ·unfold nxT
  rw[if_pos (by rw[b0];rfl),hr,cut_app a [111,117,116] (32::b) (i:=a.length) (j:=a.length+3) rfl rfl]
  rfl
 ·unfold nxE
  rw[if_pos (by rw[b0];rfl),hr]
theorem nx_mark (a b:List UInt8)(x:UInt8)(h1:x=59∨x=45):NxW (a++(x::b)) a.length ⟨[x],a.length,[x]⟩ (a.length+1):=by
 have b0:bt (a++(x::b)) a.length=(x.toNat:Int):=(bt_app (k:=a.length) (j:=0) rfl).trans rfl
 have g0:(a++(x::b)).getD a.length 0=x:=by
  rw[List.getD_eq_getElem?_getD,List.getElem?_append_right (Nat.le_refl _),Nat.sub_self];rfl
 have hl:letB (bt (a++(x::b)) a.length)=false:=by rw[b0];rcases h1 with rfl|rfl<;>rfl
 have hd:dig (bt (a++(x::b)) a.length)=false:=by rw[b0];rcases h1 with rfl|rfl<;>rfl
 refine⟨by simp,?_,?_,by simp⟩
 ·unfold nxT
  rw[if_neg (by rw[hl];decide),if_neg (by rw[hd];decide),g0]
  rcases h1 with rfl|rfl<;>rfl
 ·unfold nxE
  rw[if_neg (by rw[hl];decide),if_neg (by rw[hd];decide)]
def numS (x:List UInt8):List UInt8:=if (46:UInt8)∈x then sDec else sInt
theorem bt_nums {x:List UInt8}{k:Nat}(h:k<x.length):(numsOf x).getD k 0=bt x k:=by
 unfold numsOf bt
 rw[List.getD_eq_getElem?_getD,List.getD_eq_getElem?_getD,List.getElem?_map,List.getElem?_eq_getElem h]
 rfl
theorem nx_num (a x b:List UInt8)(c:UInt8)(hx:Good (numsOf x))(hc:c=32∨c=59):NxW (a++(x++(c::b))) a.length ⟨numS x,a.length,x⟩ (a.length+x.length):=by
 obtain⟨p,hp⟩:=hx
 have hnl:(numsOf x).length=x.length:=by unfold numsOf;rw[List.length_map]
 have hpos:0<x.length:=by rw[←hnl];exact hp.pos
 have bx:∀k,k<x.length→bt (a++(x++(c::b))) (a.length+k)=bt x k:=fun k hk=>by rw[bt_app rfl,bt_pre hk]
 have bc:bt (a++(x++(c::b))) (a.length+x.length)=(c.toNat:Int):=by rw[bt_app (j:=x.length) rfl];exact(bt_app (k:=x.length) (j:=0) rfl).trans rfl
 have dgt:∀k,k<x.length→bt x k≠46→dig (bt x k)=true:=fun k hk h=>by
  have:=hp.digit k (by rw[hnl];exact hk)
  rw[bt_nums hk] at this
  exact this h
 have pnt:∀k,k<x.length→(bt x k=46↔(k:Int)=p):=fun k hk=>by
  have:=hp.point k (by rw[hnl];exact hk)
  rwa [bt_nums hk] at this
 have hcd:dig (c.toNat:Int)=false∧(c.toNat:Int)≠46:=by rcases hc with rfl|rfl<;>exact⟨rfl,by decide⟩
 have hlen:(a++(x++(c::b))).length=a.length+x.length+(b.length+1):=by simp;omega
 have hmem:∀k,k<x.length→bt x k=46→(46:UInt8)∈x:=fun k hk h=>by
  unfold bt at h
  rw[List.getD_eq_getElem?_getD,List.getElem?_eq_getElem hk] at h
  have h2:x[k].toNat=46:=by
   simp only[Option.getD_some] at h
   omega
  have h3:x[k]=46:=UInt8.toNat_inj.1 h2
  rw[←h3]
  exact List.getElem_mem hk
 have hd0:dig (bt (a++(x++(c::b))) a.length)=true:=by
  have:=bx 0 hpos
  rw[Nat.add_zero] at this
  rw[this]
  refine dgt 0 hpos (fun h=>?_)
  have:=(pnt 0 hpos).1 h
  rcases hp.place with q|q<;>omega
 have hl0:letB (bt (a++(x++(c::b))) a.length)=false:=by
  generalize bt (a++(x++(c::b))) a.length=y at hd0
  unfold dig at hd0
  unfold letB
  simp only[Bool.and_eq_true,decide_eq_true_eq] at hd0
  simp only[Bool.or_eq_false_iff,Bool.and_eq_false_iff,decide_eq_false_iff_not,beq_eq_false_iff_ne]
  omega
 rcases hp.place with hq|hq
 ·
  have hall:∀k,k<x.length→dig (bt x k)=true:=fun k hk=>dgt k hk (fun h=>by have:=(pnt k hk).1 h;omega)
  have hnm:¬(46:UInt8)∈x:=fun h=>by
   obtain⟨k,hk,e⟩:=List.getElem_of_mem h
   have:=(pnt k hk).1 (by unfold bt;rw[List.getD_eq_getElem?_getD,List.getElem?_eq_getElem hk,Option.getD_some,e];rfl)
   omega
  have hr:runE dig (a++(x++(c::b))) a.length=a.length+x.length:=by
   refine runE_eq x.length _ (by omega) (fun k h1 h2=>?_) (fun _=>by rw[bc];exact hcd.1)
   obtain⟨j,rfl⟩:∃j,k=a.length+j:=⟨k-a.length,by omega⟩
   rw[bx j (by omega)]
   exact hall j (by omega)
  have hno:¬(runE dig (a++(x++(c::b))) a.length+1<(a++(x++(c::b))).length∧bt (a++(x++(c::b))) (runE dig (a++(x++(c::b))) a.length)=46∧dig (bt (a++(x++(c::b))) (runE dig (a++(x++(c::b))) a.length+1))=true):=fun h=>by
   have h2:=h.2.1
   rw[hr,bc] at h2
   exact hcd.2 h2
  have hE:numE (a++(x++(c::b))) a.length=a.length+x.length:=by unfold numE;rw[if_neg hno,hr]
  have hS:numSym (a++(x++(c::b))) a.length=sInt:=by unfold numSym;rw[if_neg hno]
  refine⟨by omega,?_,?_,by unfold numS;rw[if_neg hnm];show sInt≠[];decide⟩
  ·unfold nxT
   rw[if_neg (by rw[hl0];decide),if_pos hd0,hE,hS,cut_app a x (c::b) rfl rfl]
   unfold numS
   rw[if_neg hnm]
  ·unfold nxE
   rw[if_neg (by rw[hl0];decide),if_pos hd0,hE]
 ·
  obtain⟨m,rfl⟩:=Int.eq_ofNat_of_zero_le (show 0≤p by omega)
  rw[hnl] at hq
  have hm:m+1<x.length:=by omega
  have hpt:bt x m=46:=(pnt m (by omega)).2 rfl
  have hdg:∀k,k<x.length→k≠m→dig (bt x k)=true:=fun k hk hne=>dgt k hk (fun h=>by have:=(pnt k hk).1 h;omega)
  have hmm:(46:UInt8)∈x:=hmem m (by omega) hpt
  have hr:runE dig (a++(x++(c::b))) a.length=a.length+m:=by
   refine runE_eq m _ (by omega) (fun k h1 h2=>?_) (fun _=>by rw[bx m (by omega),hpt];rfl)
   obtain⟨j,rfl⟩:∃j,k=a.length+j:=⟨k-a.length,by omega⟩
   rw[bx j (by omega)]
   exact hdg j (by omega) (by omega)
  have hyes:runE dig (a++(x++(c::b))) a.length+1<(a++(x++(c::b))).length∧bt (a++(x++(c::b))) (runE dig (a++(x++(c::b))) a.length)=46∧dig (bt (a++(x++(c::b))) (runE dig (a++(x++(c::b))) a.length+1))=true:=by
   rw[hr]
   refine⟨by omega,by rw[bx m (by omega)];exact hpt,?_⟩
   rw[Nat.add_assoc,bx (m+1) hm]
   exact hdg (m+1) hm (by omega)
  have hr2:runE dig (a++(x++(c::b))) (a.length+m+1)=a.length+x.length:=by
   have:=runE_eq (p:=dig) (t:=a++(x++(c::b))) (x.length-(m+1)) (a.length+m+1) (by omega) (fun k h1 h2=>?_) (fun _=>?_)
   ·rw[this];omega
   ·obtain⟨j,rfl⟩:∃j,k=a.length+j:=⟨k-a.length,by omega⟩
    rw[bx j (by omega)]
    exact hdg j (by omega) (by omega)
   ·rw[show a.length+m+1+(x.length-(m+1))=a.length+x.length by omega,bc]
    exact hcd.1
  have hE:numE (a++(x++(c::b))) a.length=a.length+x.length:=by unfold numE;rw[if_pos hyes,hr,hr2]
  have hS:numSym (a++(x++(c::b))) a.length=sDec:=by unfold numSym;rw[if_pos hyes]
  refine⟨by omega,?_,?_,by unfold numS;rw[if_pos hmm];show sDec≠[];decide⟩
  ·unfold nxT
   rw[if_neg (by rw[hl0];decide),if_pos hd0,hE,hS,cut_app a x (c::b) rfl rfl]
   unfold numS
   rw[if_pos hmm]
  ·unfold nxE
   rw[if_neg (by rw[hl0];decide),if_pos hd0,hE]
end Go.Proofs.YtgamjhpebmmjcaaGreatDoor
namespace Go.Proofs.YtgamjhpebmmjcaaGreatDoor
set_option maxRecDepth 100000
set_option maxHeartbeats 40000000
open Go.RowKit Flt
theorem sk_none (a b:List UInt8)(y:UInt8)(h:blkB (y.toNat:Int)=false)(h2:(y.toNat:Int)≠35):skM (a++(y::b)) a.length=a.length:=by
 have b0:bt (a++(y::b)) a.length=(y.toNat:Int):=(bt_app (k:=a.length) (j:=0) rfl).trans rfl
 exact skM_stop (by simp) (by rw[b0];exact h) (by rw[b0];exact h2)
theorem sk_one (a b:List UInt8)(y:UInt8)(h:blkB (y.toNat:Int)=false)(h2:(y.toNat:Int)≠35):skM (a++(32::y::b)) a.length=a.length+1:=by
 have b0:bt (a++(32::y::b)) a.length=32:=(bt_app (k:=a.length) (j:=0) rfl).trans rfl
 have b1:bt (a++(32::y::b)) (a.length+1)=(y.toNat:Int):=(bt_app (k:=a.length+1) (j:=1) rfl).trans rfl
 rw[skM_blank (by simp) (by rw[b0];rfl)]
 exact skM_stop (by simp) (by rw[b1];exact h) (by rw[b1];exact h2)
def srcN (x:List UInt8):List UInt8:=[111,117,116]++(32::(x++(32::59::32::([111,117,116]++(32::45::(x++[59]))))))
theorem good_head {x:List UInt8}(hx:Good (numsOf x)):∃y r,x=y::r∧blkB (y.toNat:Int)=false∧(y.toNat:Int)≠35:=by
 obtain⟨p,hp⟩:=hx
 cases x with
 |nil=>have:=hp.pos;simp[numsOf] at this
 |cons y r=>
  refine⟨y,r,rfl,?_⟩
  have h1:=hp.digit 0 hp.pos
  have h2:(numsOf (y::r)).getD 0 0=(y.toNat:Int):=rfl
  have h3:(numsOf (y::r)).getD 0 0≠46:=fun e=>by
   have:=(hp.point 0 hp.pos).1 e
   rcases hp.place with q|q<;>omega
  have h4:=h1 h3
  rw[h2] at h4
  generalize (y.toNat:Int)=z at h4
  unfold dig at h4
  unfold blkB
  simp only[Bool.and_eq_true,decide_eq_true_eq] at h4
  simp only[Bool.or_eq_false_iff,beq_eq_false_iff_ne]
  omega
theorem toks_src {x:List UInt8}(hx:Good (numsOf x)):∃p1 p2 p3 p4 p5 p6 p7,allT (srcN x)=[⟨[111,117,116],p1,[111,117,116]⟩,⟨numS x,p2,x⟩,⟨[59],p3,[59]⟩,⟨[111,117,116],p4,[111,117,116]⟩,⟨[45],p5,[45]⟩,⟨numS x,p6,x⟩,⟨[59],p7,[59]⟩]:=by
 obtain⟨y,r,hy,y1,y2⟩:=good_head hx
 have t1:srcN x=[]++([111,117,116]++(32::(x++(32::59::32::([111,117,116]++(32::45::(x++[59]))))))):=rfl
 have t1s:srcN x=[111,117,116]++(32::y::(r++(32::59::32::([111,117,116]++(32::45::(x++[59])))))):=by unfold srcN;rw[hy];simp
 have t2:srcN x=[111,117,116,32]++(x++(32::(59::32::([111,117,116]++(32::45::(x++[59])))))):=rfl
 have t2s:srcN x=([111,117,116,32]++x)++(32::59::(32::([111,117,116]++(32::45::(x++[59]))))):=by unfold srcN;simp
 have t3:srcN x=([111,117,116,32]++x++[32])++(59::(32::([111,117,116]++(32::45::(x++[59]))))):=by unfold srcN;simp
 have t3s:srcN x=([111,117,116,32]++x++[32,59])++(32::111::([117,116]++(32::45::(x++[59])))):=by unfold srcN;simp
 have t4:srcN x=([111,117,116,32]++x++[32,59,32])++([111,117,116]++(32::(45::(x++[59])))):=by unfold srcN;simp
 have t4s:srcN x=([111,117,116,32]++x++[32,59,32,111,117,116])++(32::45::(x++[59])):=by unfold srcN;simp
 have t5:srcN x=([111,117,116,32]++x++[32,59,32,111,117,116,32])++(45::(x++[59])):=by unfold srcN;simp
 have t5s:srcN x=([111,117,116,32]++x++[32,59,32,111,117,116,32,45])++(y::(r++[59])):=by unfold srcN;rw[hy];simp
 have t6:srcN x=([111,117,116,32]++x++[32,59,32,111,117,116,32,45])++(x++(59::[])):=by unfold srcN;simp
 have t7:srcN x=([111,117,116,32]++x++[32,59,32,111,117,116,32,45]++x)++(59::[]):=by unfold srcN;simp
 have l3:([111,117,116,32]++x++[32]).length=5+x.length:=by simp;omega
 have l2:([111,117,116,32]++x).length=4+x.length:=by simp;omega
 have l3s:([111,117,116,32]++x++[32,59]).length=6+x.length:=by simp;omega
 have l4:([111,117,116,32]++x++[32,59,32]).length=7+x.length:=by simp;omega
 have l4s:([111,117,116,32]++x++[32,59,32,111,117,116]).length=10+x.length:=by simp;omega
 have l5:([111,117,116,32]++x++[32,59,32,111,117,116,32]).length=11+x.length:=by simp;omega
 have l6:([111,117,116,32]++x++[32,59,32,111,117,116,32,45]).length=12+x.length:=by simp;omega
 have l7:([111,117,116,32]++x++[32,59,32,111,117,116,32,45]++x).length=12+2*x.length:=by simp;omega
 have n1:NxW (srcN x) 0 ⟨[111,117,116],0,[111,117,116]⟩ 3:=t1 ▸ nx_out [] _
 have n2:NxW (srcN x) 4 ⟨numS x,4,x⟩ (4+x.length):=t2 ▸ nx_num [111,117,116,32] x _ 32 hx (.inl rfl)
 have n3:=nx_mark ([111,117,116,32]++x++[32]) (32::([111,117,116]++(32::45::(x++[59])))) 59 (.inl rfl)
 rw[←t3,l3] at n3
 have n4:=nx_out ([111,117,116,32]++x++[32,59,32]) (45::(x++[59]))
 rw[←t4,l4] at n4
 have n5:=nx_mark ([111,117,116,32]++x++[32,59,32,111,117,116,32]) (x++[59]) 45 (.inr rfl)
 rw[←t5,l5] at n5
 have n6:=nx_num ([111,117,116,32]++x++[32,59,32,111,117,116,32,45]) x [] 59 hx (.inr rfl)
 rw[←t6,l6] at n6
 have n7:=nx_mark ([111,117,116,32]++x++[32,59,32,111,117,116,32,45]++x) [] 59 (.inl rfl)
 rw[←t7,l7] at n7
 have s0:skM (srcN x) 0=0:=t1 ▸ sk_none [] _ 111 rfl (by decide)
 have s1:skM (srcN x) 3=4:=t1s ▸ sk_one [111,117,116] _ y y1 y2
 have s2:=sk_one ([111,117,116,32]++x) (32::([111,117,116]++(32::45::(x++[59])))) 59 rfl (by decide)
 rw[←t2s,l2] at s2
 have s3:=sk_one ([111,117,116,32]++x++[32,59]) ([117,116]++(32::45::(x++[59]))) 111 rfl (by decide)
 rw[←t3s,l3s] at s3
 have s4:=sk_one ([111,117,116,32]++x++[32,59,32,111,117,116]) (x++[59]) 45 rfl (by decide)
 rw[←t4s,l4s] at s4
 have s5:=sk_none ([111,117,116,32]++x++[32,59,32,111,117,116,32,45]) (r++[59]) y y1 y2
 rw[←t5s,l6] at s5
 have s6:=sk_none ([111,117,116,32]++x++[32,59,32,111,117,116,32,45]++x) [] 59 rfl (by decide)
 rw[←t7,l7] at s6
 have hl:(srcN x).length=13+2*x.length:=by unfold srcN;simp;omega
 have g7:=n7.go (m:=12+2*x.length+1) (skM_end (by rw[hl];omega))
 rw[toksM_end (i:=12+2*x.length+1) (by rw[hl];omega)] at g7
 have g6:=n6.go (m:=12+2*x.length) (by rw[show 12+x.length+x.length=12+2*x.length by omega];exact s6)
 rw[g7] at g6
 have g5:=n5.go (m:=12+x.length) (by rw[show 11+x.length+1=12+x.length by omega];exact s5)
 rw[g6] at g5
 have g4:=n4.go (m:=11+x.length) (by rw[show 7+x.length+3=10+x.length by omega,s4];omega)
 rw[g5] at g4
 have g3:=n3.go (m:=7+x.length) (by rw[show 5+x.length+1=6+x.length by omega,s3];omega)
 rw[g4] at g3
 have g2:=n2.go (m:=5+x.length) (by rw[s2];omega)
 rw[g3] at g2
 have g1:=n1.go s1
 rw[g2] at g1
 have g0:allT (srcN x)=_:=(congrArg (toksM (srcN x)) s0).trans g1
 exact⟨_,_,_,_,_,_,_,g0⟩
end Go.Proofs.YtgamjhpebmmjcaaGreatDoor
namespace Go.Proofs.YtgamjhpebmmjcaaGreatDoor
set_option maxRecDepth 100000
set_option maxHeartbeats 40000000
open Go.RowKit Flt
theorem wrong_num {n:Nat}{sy:List UInt8}(hs:sy=sInt∨sy=sDec)(p:Nat)(x:List UInt8)(c:Tok)(hc:c.sym=[59])(ts:List Tok)(r:List (List UInt8)):wrongM n (⟨sy,p,x⟩::c::ts) (pUNARY::pMOREUNARY::pMORETERMS::[59]::r)=wrongM n ts r:=by
 obtain⟨cs,cp,ct⟩:=c
 simp only at hc
 subst hc
 rw[wrong_part (by decide)]
 have h1:ruleM pUNARY (hdS (⟨sy,p,x⟩::⟨[59],cp,ct⟩::ts))++(pMOREUNARY::pMORETERMS::[59]::r)=sy::pMOREUNARY::pMORETERMS::[59]::r:=by
  rcases hs with rfl|rfl<;>rfl
 rw[h1,wrong_yes (s:=sy) (by rcases hs with rfl|rfl<;>decide) rfl,wrong_part (by decide)]
 rw[show ruleM pMOREUNARY (hdS (⟨[59],cp,ct⟩::ts))++(pMORETERMS::[59]::r)=pMORETERMS::[59]::r from rfl,wrong_part (by decide)]
 rw[show ruleM pMORETERMS (hdS (⟨[59],cp,ct⟩::ts))++([59]::r)=[59]::r from rfl]
 exact wrong_yes (s:=[59]) (by decide) rfl r
theorem wrong_out {n:Nat}(p:Nat)(t:List UInt8)(ts:List Tok)(r:List (List UInt8)):wrongM n (⟨[111,117,116],p,t⟩::ts) (pSTMTS::r)=wrongM n ts (pUNARY::pMOREUNARY::pMORETERMS::[59]::pSTMTS::r):=by
 rw[wrong_part (by decide)]
 rw[show ruleM pSTMTS (hdS (⟨[111,117,116],p,t⟩::ts))++r=[111,117,116]::pEXPR::[59]::pSTMTS::r from rfl,wrong_yes (s:=[111,117,116]) (by decide) rfl,wrong_part (by decide)]
 rw[show ruleM pEXPR (hdS ts)++([59]::pSTMTS::r)=pTERM::pMORETERMS::[59]::pSTMTS::r from rfl,wrong_part (by decide)]
 rfl
theorem wrong_src {n:Nat}{sy:List UInt8}(hs:sy=sInt∨sy=sDec)(x:List UInt8)(p1 p2 p3 p4 p5 p6 p7:Nat):wrongM n [⟨[111,117,116],p1,[111,117,116]⟩,⟨sy,p2,x⟩,⟨[59],p3,[59]⟩,⟨[111,117,116],p4,[111,117,116]⟩,⟨[45],p5,[45]⟩,⟨sy,p6,x⟩,⟨[59],p7,[59]⟩] [pSTMTS]=-1:=by
 rw[wrong_out,wrong_num hs _ _ _ rfl,wrong_out,wrong_part (by decide)]
 rw[show ∀ts:List Tok,ruleM pUNARY (hdS (⟨[45],p5,[45]⟩::ts))++(pMOREUNARY::pMORETERMS::[59]::[pSTMTS])=[45]::pUNARY::pMOREUNARY::pMORETERMS::[59]::[pSTMTS] from fun _=>rfl,wrong_yes (s:=[45]) (by decide) rfl,wrong_num hs _ _ _ rfl]
 rw[wrongM,settle_part (by decide),show ruleM pSTMTS sEnd++[]=[] from rfl,settle_nil,if_pos rfl]
theorem pr_one {n:Nat}{es:List Ex}{ts:List Tok}(h:Pr n es ts):∀{e:Ex} {t:Tok},(t.sym=sInt∨t.sym=sDec)→n≤2→es=[e]→ts=[t]→e=.num t:=by
 induction h with
 |up01 _ ih=>intro e t hs hn he ht;exact ih hs (by omega) he ht
 |up12 _ ih=>intro e t hs hn he ht;exact ih hs (by omega) he ht
 |add h1 _ h2 _ _=>intro e t hs hn he ht;have l:=congrArg List.length ht;simp only[List.length_append,List.length_cons,List.length_nil] at l;have:=List.length_pos_iff.2 (pr_ne h1);omega
 |mul h1 _ h2 _ _=>intro e t hs hn he ht;have l:=congrArg List.length ht;simp only[List.length_append,List.length_cons,List.length_nil] at l;have:=List.length_pos_iff.2 (pr_ne h1);omega
 |neg _ h1 _=>intro e t hs hn he ht;have l:=congrArg List.length ht;simp only[List.length_cons,List.length_nil] at l;have:=List.length_pos_iff.2 (pr_ne h1);omega
 |num _=>intro e t hs hn he ht;simp at he ht;rw[←he,ht]
 |name h=>intro e t hs hn he ht;simp at ht;subst ht;rcases hs with q|q<;>rw[h] at q<;>exact absurd q (by decide)
 |arg1 _ _=>intro e t hs hn;omega
 |argM _ _ _ _ _=>intro e t hs hn;omega
 |_=>intro e t hs hn he ht;simp at ht
theorem pr_two {n:Nat}{es:List Ex}{ts:List Tok}(h:Pr n es ts):∀{e:Ex} {o t:Tok},o.sym=[45]→(t.sym=sInt∨t.sym=sDec)→n≤2→es=[e]→ts=[o,t]→e=.neg o (.num t):=by
 induction h with
 |up01 _ ih=>intro e o t ho hs hn he ht;exact ih ho hs (by omega) he ht
 |up12 _ ih=>intro e o t ho hs hn he ht;exact ih ho hs (by omega) he ht
 |add h1 _ h2 _ _=>intro e o t ho hs hn he ht;have l:=congrArg List.length ht;simp only[List.length_append,List.length_cons,List.length_nil] at l;have:=List.length_pos_iff.2 (pr_ne h1);have:=List.length_pos_iff.2 (pr_ne h2);omega
 |mul h1 _ h2 _ _=>intro e o t ho hs hn he ht;have l:=congrArg List.length ht;simp only[List.length_append,List.length_cons,List.length_nil] at l;have:=List.length_pos_iff.2 (pr_ne h1);have:=List.length_pos_iff.2 (pr_ne h2);omega
 |neg _ h1 _=>
  intro e o t ho hs hn he ht
  simp only[List.cons.injEq] at ht
  obtain⟨rfl,h2⟩:=ht
  have:=pr_one h1 hs (by omega) rfl h2
  simp only[List.cons.injEq,and_true] at he
  rw[←he,this]
 |num _=>intro e o t ho hs hn he ht;simp at ht
 |name h=>intro e o t ho hs hn he ht;simp at ht
 |arg1 _ _=>intro e o t ho hs hn;omega
 |argM _ _ _ _ _=>intro e o t ho hs hn;omega
 |par hl _ _ _=>intro e o t ho hs hn he ht;simp only[List.cons.injEq] at ht;rw[ht.1,ho] at hl;exact absurd hl (by decide)
 |call0 hl _ _=>intro e o t ho hs hn he ht;simp at ht
 |call hl _ _ _ _=>intro e o t ho hs hn he ht;have l:=congrArg List.length ht;simp at l
 |_=>intro e o t ho hs hn he ht;have l:=congrArg List.length ht;simp at l
theorem semi_cut {ts us:List Tok}{c:Tok}(h:∀t∈ts,t.sym≠[59])(hc:c.sym=[59]):∀{vs ws:List Tok} {d:Tok},(∀t∈vs,t.sym≠[59])→d.sym=[59]→ts++c::us=vs++d::ws→ts=vs∧us=ws:=by
 induction ts with
 |nil=>
  intro vs ws d hv hd e
  cases vs with
  |nil=>simp at e;exact⟨rfl,e.2⟩
  |cons v vs=>simp at e;rw[e.1] at hc;exact absurd hc (hv v (by simp))
 |cons t ts ih=>
  intro vs ws d hv hd e
  cases vs with
  |nil=>simp at e;rw[←e.1] at hd;exact absurd hd (h t (by simp))
  |cons v vs=>
   simp at e
   obtain⟨h1,h2⟩:=ih (fun t ht=>h t (by simp[ht])) (fun t ht=>hv t (by simp[ht])) hd e.2
   exact⟨by rw[e.1,h1],h2⟩
theorem ps_out {s:Sm}{k:Tok}{ts:List Tok}(hk:k.sym=[111,117,116])(h:PSm s (k::ts)):∃e,s=.outS k e∧Pr 2 [e] ts:=by
 generalize hz:k::ts=zs at h
 cases h with
 |outS _ hp=>simp only[List.cons.injEq] at hz;obtain⟨rfl,rfl⟩:=hz;exact⟨_,rfl,hp⟩
 |inS h1 _ _ _=>simp only[List.cons.injEq] at hz;rw[←hz.1,hk] at h1;exact absurd h1 (by decide)
 |letS h1 _ _ _=>simp only[List.cons.injEq] at hz;rw[←hz.1,hk] at h1;exact absurd h1 (by decide)
 |rep h1 _ _ _ _=>simp only[List.cons.injEq] at hz;rw[←hz.1,hk] at h1;exact absurd h1 (by decide)
 |def0 h1 _ _ _ _ _=>simp only[List.cons.injEq] at hz;rw[←hz.1,hk] at h1;exact absurd h1 (by decide)
 |defS h1 _ _ _ _ _ _=>simp only[List.cons.injEq] at hz;rw[←hz.1,hk] at h1;exact absurd h1 (by decide)
theorem pg_src {ss:List Sm}{k1 t1 c1 k2 o t2 c2:Tok}(h:PGm ss [k1,t1,c1,k2,o,t2,c2])(a1:k1.sym=[111,117,116])(a2:t1.sym=sInt∨t1.sym=sDec)(a3:c1.sym=[59])(a4:k2.sym=[111,117,116])(a5:o.sym=[45])(a6:t2.sym=sInt∨t2.sym=sDec)(a7:c2.sym=[59]):ss=[.outS k1 (.num t1),.outS k2 (.neg o (.num t2))]:=by
 have nn:∀{t:Tok},(t.sym=sInt∨t.sym=sDec)→t.sym≠[59]:=fun {t} q=>by rcases q with q|q<;>rw[q]<;>decide
 generalize hz:[k1,t1,c1,k2,o,t2,c2]=zs at h
 cases h with
 |nil=>cases hz
 |@cons s ss ts us c hs hc hg=>
  obtain⟨e1,e2⟩:=semi_cut (ts:=[k1,t1]) (us:=[k2,o,t2,c2]) (fun t ht=>by simp only[List.mem_cons,List.not_mem_nil,or_false] at ht;rcases ht with rfl|rfl<;>first|(rw[a1];decide)|exact nn a2) a3 (ps_semi hs) hc hz
  subst e1 e2
  obtain⟨e,rfl,hp⟩:=ps_out a1 hs
  rw[pr_one hp a2 (by omega) rfl rfl]
  generalize hy:[k2,o,t2,c2]=ys at hg
  cases hg with
  |nil=>cases hy
  |@cons s2 ss2 ts2 us2 c3 hs2 hc3 hg2=>
   obtain⟨e1,e2⟩:=semi_cut (ts:=[k2,o,t2]) (us:=[]) (fun t ht=>by simp only[List.mem_cons,List.not_mem_nil,or_false] at ht;rcases ht with rfl|rfl|rfl<;>first|(rw[a4];decide)|(rw[a5];decide)|exact nn a6) a7 (ps_semi hs2) hc3 hy
   subst e1 e2
   obtain⟨e',rfl,hp2⟩:=ps_out a4 hs2
   rw[pr_two hp2 a5 a6 (by omega) rfl rfl]
   generalize hx:([]:List Tok)=xs at hg2
   cases hg2 with
   |nil=>rfl
   |cons _ _ _=>simp at hx
end Go.Proofs.YtgamjhpebmmjcaaGreatDoor
namespace Go.Proofs.YtgamjhpebmmjcaaGreatDoor
set_option maxRecDepth 100000
set_option maxHeartbeats 40000000
open Go.RowKit Flt
def nVals (k:Nat):List Vl:=[⟨1,1,0,0,0,k⟩,⟨1,1,0,0,0,k⟩,vput 6 1 1 0 0]
theorem lim_n (k:Nat):limB [⟨1,1,0,0,0,k⟩]=false∧limB [⟨1,1,0,0,0,k⟩,⟨1,1,0,0,0,k⟩]=false∧limB (nVals k)=false:=⟨rfl,rfl,rfl⟩
theorem prog_n (k1 t1 k2 o t2:Tok)(h:t2.text=t1.text):progM 2 LSt.zero [.outS k1 (.num t1),.outS k2 (.neg o (.num t2))]=some (.ok ⟨[],nVals (numK t1.text),[0,2],[],0⟩):=by
 obtain⟨l1,l2,l3⟩:=lim_n (numK t1.text)
 have p1:putM LSt.zero ⟨1,1,0,0,0,numK t1.text⟩ t1.pos=.ok (⟨[],[⟨1,1,0,0,0,numK t1.text⟩],[],[],0⟩,0):=by
  unfold putM
  rw[if_neg (by show ¬limB [_]=true;rw[l1];decide)]
  rfl
 have s1:stmtM 2 LSt.zero (.outS k1 (.num t1))=some (.ok ⟨[],[⟨1,1,0,0,0,numK t1.text⟩],[0],[],0⟩):=by
  simp only[stmtM,evalE,p1]
  rfl
 have p2:putM ⟨[],[⟨1,1,0,0,0,numK t1.text⟩],[0],[],0⟩ ⟨1,1,0,0,0,numK t2.text⟩ t2.pos=.ok (⟨[],[⟨1,1,0,0,0,numK t1.text⟩,⟨1,1,0,0,0,numK t1.text⟩],[0],[],0⟩,1):=by
  unfold putM
  rw[h,if_neg (by show ¬limB [_,_]=true;rw[l2];decide)]
  rfl
 have p3:putM ⟨[],[⟨1,1,0,0,0,numK t1.text⟩,⟨1,1,0,0,0,numK t1.text⟩],[0],[],0⟩ (vput 6 1 1 0 0) o.pos=.ok (⟨[],nVals (numK t1.text),[0],[],0⟩,2):=by
  unfold putM
  rw[if_neg (by show ¬limB (nVals _)=true;rw[l3];decide)]
  rfl
 have s2:stmtM 2 ⟨[],[⟨1,1,0,0,0,numK t1.text⟩],[0],[],0⟩ (.outS k2 (.neg o (.num t2)))=some (.ok ⟨[],nVals (numK t1.text),[0,2],[],0⟩):=by
  simp only[stmtM,evalE,thenE,p2]
  rw[show lenA ⟨[],[⟨1,1,0,0,0,numK t1.text⟩,⟨1,1,0,0,0,numK t1.text⟩],[0],[],0⟩ 1=1 from rfl,show((1:Nat):Int)=1 from rfl,p3]
  rfl
 rw[progM,s1]
 simp only
 rw[progM,s2]
 simp only
 rw[progM]
theorem graphN {w:World}{v:Value}{vs:List Value}{ss:List Sm}(hrow:w.ownsRow 0 112 1 v vs.length vs)(hsd:SdL w (fun b=>b<w.heap.size) vs ss){k1 t1 k2 o t2:Tok}(hss:ss=[.outS k1 (.num t1),.outS k2 (.neg o (.num t2))])(hP:∀s∈ss,SimS s)(h:t2.text=t1.text):
  Calls Tryz.prog 35 #[v] w (GoO1 w (.ok ⟨[],nVals (numK t1.text),[0,2],[],0⟩)):=by
 obtain⟨a,c,rfl⟩:=own_formG hrow
 refine graphS1 (f:=2) rfl hrow hsd ?_ (P:=SimS) hP (by rw[hss];exact prog_n k1 t1 k2 o t2 h) (fun E ρ W st v s r1 q g sd hx h1=>sim_stmt q g sd hx h1) (fun st s' s g h5 hx h1=>sim_step g hx h1)
 have:=hsd.1
 rw[hss] at this
 simp at this
 omega
end Go.Proofs.YtgamjhpebmmjcaaGreatDoor
namespace Go.Proofs.YtgamjhpebmmjcaaGreatDoor
set_option maxRecDepth 100000
set_option maxHeartbeats 40000000
open Go.RowKit Flt
theorem numS_or (x:List UInt8):numS x=sInt∨numS x=sDec:=by
 unfold numS
 split
 ·exact .inr rfl
 ·exact .inl rfl
theorem numS_ne (x:List UInt8):numS x≠[]:=by rcases numS_or x with h|h<;>rw[h]<;>decide
theorem enk_num {t:Tok}(h1:t.sym≠[])(h:NumOK t.text):ENk (.num t):=by
 have h2:t.text≠[]:=fun e=>by
  obtain⟨⟨p,hp⟩,_⟩:=h
  have:=hp.pos
  rw[e] at this
  simp[numsOf] at this
 exact⟨fun k hk=>by simp[tkE] at hk;subst hk;exact⟨h1,h2⟩,fun k hk=>by simp[nmE] at hk;subst hk;exact h⟩
theorem enk_neg {o t:Tok}(ho:o.sym≠[]∧o.text≠[])(h1:t.sym≠[])(h:NumOK t.text):ENk (.neg o (.num t)):=by
 obtain⟨a,b⟩:=enk_num h1 h
 refine⟨fun k hk=>?_,fun k hk=>b k (by simpa[nmE] using hk)⟩
 simp only[tkE,List.mem_cons] at hk
 rcases hk with rfl|hk
 ·exact ho
 ·exact a k (by simpa[tkE] using hk)
theorem nsy {s t:List UInt8}{p:Nat}(h:(⟨s,p,t⟩:Tok).sym=sInt∨(⟨s,p,t⟩:Tok).sym=sDec)(hs:(s !=sInt&&s !=sDec)=true:=by decide):False:=by
 simp only[Bool.and_eq_true,bne_iff_ne] at hs
 exact h.elim hs.1 hs.2
theorem parseN {w:World}{a:Option Addr}{n cap:Nat}{x:List UInt8}(f:TxA w a n (srcN x))(hcp:n≤cap)(hn4:n≤4000)(hx:NumOK x):
  Calls Tryz.prog 23 #[.slice a n cap] w (PJ1 w ⟨[],nVals (numK x),[0,2],0,0⟩):=by
 obtain⟨p1,p2,p3,p4,p5,p6,p7,hT⟩:=toks_src hx.1
 refine parseOK (r:=.ok ⟨[],nVals (numK x),[0,2],[],0⟩) f hcp hn4 ?_ ?_ ?_ (fun c p h=>by cases h)
 ·rw[hT];exact wrong_src (numS_or x) x p1 p2 p3 p4 p5 p6 p7
 ·intro j q hj hq
  obtain⟨hi,_,hN,ht,_⟩:=num_tok hj hq
  have hm:=List.getElem_mem hi
  have e:(allT (srcN x))[j].text=x:=by
   generalize (allT (srcN x))[j]=k at hm hN
   rw[hT] at hm
   simp only[List.mem_cons,List.not_mem_nil,or_false] at hm
   unfold isN at hN
   rcases hm with rfl|rfl|rfl|rfl|rfl|rfl|rfl
   ·exact(nsy hN).elim
   ·rfl
   ·exact(nsy hN).elim
   ·exact(nsy hN).elim
   ·exact(nsy hN).elim
   ·rfl
   ·exact(nsy hN).elim
  rw[ht,e,dc_dig hx.1]
  have:=hx.2
  omega
 ·intro W v vs ss M hrow hsd hss
  rw[hT] at hss
  have hs:=pg_src hss rfl (numS_or x) rfl rfl rfl (numS_or x) rfl
  refine Calls.mono (graphN hrow hsd.lt hs ?_ rfl) fun e w' q=>⟨go_gop q.1,q.2⟩
  rw[hs]
  intro s hs
  simp only[List.mem_cons,List.not_mem_nil,or_false] at hs
  rcases hs with rfl|rfl
  ·exact⟨_,_,rfl,by simp,.inl ⟨_,rfl⟩,enk_num (numS_ne x) hx⟩
  ·exact⟨_,_,rfl,by simp,.inr ⟨_,_,rfl⟩,enk_neg (by simp) (numS_ne x) hx⟩
end Go.Proofs.YtgamjhpebmmjcaaGreatDoor
namespace Go.Proofs.YtgamjhpebmmjcaaGreatDoor
set_option maxRecDepth 100000
set_option maxHeartbeats 40000000
open Go.RowKit Flt
theorem psN {w:World}{a:Option Addr}{n cap:Nat}{x:List UInt8}(f:TxA w a n (srcN x))(hcp:n≤cap)(hn4:n≤4000)(hx:NumOK x):Calls Tryz.prog 23 #[.slice a n cap] w (PsN w (numK x)):=by
 refine Calls.mono (parseN f hcp hn4 hx) ?_
 rintro e w' ⟨⟨⟨a1,c1,a2,c2,a3,c3,rfl,hkb,hog⟩,k⟩,hn⟩
 have h1:Value.slice a1 0 c1=.slice none 0 0:=hn _ _ _ _ _ rfl
 injection h1 with e1 _ e2
 subst e1 e2
 obtain⟨g1,g2,g3,og,_⟩:=hog w'.heap.size (Nat.le_refl _)
 rcases og.v with h|⟨rfl,hv⟩
 ·cases (show(3:Nat)=0 from h)
 rcases og.o with h|⟨rfl,ho⟩
 ·cases (show(2:Nat)=0 from h)
 exact⟨g2,c2,g3,c3,rfl,hv,ho,k⟩
theorem solveX {w:World}{a:Option Addr}{n cap gp cp:Nat}{x:List UInt8}(f:TxA w a n (srcN x))(hcp:n≤cap)(hn4:n≤4000)(hx:NumOK x)(hgp:gp<w.heap.size)(p0:w.cell? ⟨gp,0,none⟩=some (.int .i64 2))(p1:w.cell? ⟨gp,1,none⟩=some (.int .i64 0)):
  Calls Tryz.prog 8 #[.slice a n cap,.slice (some ⟨gp,0,none⟩) 2 cp,.int .i64 10,.slice none 0 0] w (SvN w (numK x)):=
 solveN hgp p0 p1 (numK_lt x) fun _ k=>psN (f.keep k) hcp hn4 hx
end Go.Proofs.YtgamjhpebmmjcaaGreatDoor
