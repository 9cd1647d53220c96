import Derived.Test.YtnlffngpnoodkaaGreatRows
import Derived.WalkKit
import Derived.WalkSpells
import Derived.WalkLawsBesides
import Derived.Deep.Draws
import Derived.ProofKit
import Derived.OpenShut
import Derived.RangeFuncNested
import Derived.RangeFuncBound
import Derived.RangeFuncCalls
import Derived.RangeFuncLeaves
import Derived.Shelf.Abstract
import Derived.Shelf.RegionOpen
import Derived.OwnWalkIn
import Derived.TacticsInMore
import Derived.LoopNIn
import Derived.LoopIn
namespace Go.Proofs.YtnlffngpnoodkaaGreat
set_option maxRecDepth 1000000
set_option maxHeartbeats 0
section
open Go.ChangeShapes Go.WideShapes Go.ChangeAt Go.RowKit
theorem own:ownKnob Tryz.prog.godebug=none:=by kernel_rfl
theorem ic (w:World)(n:Nat)(o:Obj):(w.drewN n).alloc o=(w.alloc o).drewN n:=rfl
theorem ib (w:World)(n:Nat)(a:Addr)(v:Value):(w.drewN n).setCell a v=(w.setCell a v).drewN n:=rfl
end
section
open Go.RowKit Go.Shelf
attribute [local go_sem] Oper.semAt_some
theorem tH (F:Fence)(n:Nat)(h5:F.fn 91)(hro:F.round=none)(a:Option Addr)(len cap:Nat)(w:World):
  CallsIn F n Tryz.prog 91 #[.slice a len cap] w λe w'=>e=.returned (.func (.func 116) #[] #[.pointer (some ⟨w.heap.size,0,none⟩)])/\w'=w.alloc (.cells #[.slice a len cap] 111):=by
 refine callsIn_of_wp Tryz.func91 rfl h5 ?_ hro
 simp only[Tryz.ntmps91,List.size_toArray,List.length_cons,List.length_nil,Nat.reduceAdd,Nat.reduceSub,Array.replicate_succ,Array.replicate_zero,List.push_toArray,List.append_toArray,List.nil_append,List.cons_append]
 gi_wp2
 go_ret
 exact⟨rfl,rfl⟩
structure BkI (W:World)(Bs g m cap:Nat)(a:Option Addr)(rs:List Value):Prop where
 box:W.cell? ⟨Bs,0,none⟩=some (.slice a m cap)
 at_:∀j,j<m->a=some ⟨g,0,none⟩/\∃N bs,rs[j]?.getD .nilFunc=.func (.func N) #[] bs/\W.cell? ⟨g,j,none⟩=some (.func (.func N) #[] bs)
theorem EG (F:Fence)(n:Nat)(h7:F.fn 116)(hro:F.round=none)(hn:1<=n)(l Bs g m cap:Nat)(a:Option Addr)(rs:List Value)(hm:m<=100000)(Kp:World->World->Prop)(hKp:∀A B,Kp A B->BkI A Bs g m cap a rs->BkI B Bs g m cap a rs)(J Jx:List (Fin m)->World->Prop)
  (hY:∀pre x W,J pre W->pre.length<m->YieldAt F (n-1) Tryz.prog l #[.int .i64 (x.1:Int),rs[x.1]?.getD .nilFunc] W λe W'=>
   (e=.returned (.bool true)/\J (pre++[x]) W'/\Kp W W')\/(e=.returned (.bool false)/\Jx (pre++[x]) W'))
  (W:World) (hB:BkI W Bs g m cap a rs) (h0:J [] W):
  CallsIn F n Tryz.prog 116 #[.func (.yield l) #[] #[],.pointer (some ⟨Bs,0,none⟩)] W λe W'=>(∃v,e=.returned v)/\
   ((∃ys:List (Fin m),ys.map Fin.val=(List.range m).map (λi=>m-1-i)/\J ys W')\/(∃pre:List (Fin m),True/\Jx pre W')):=by
 have hb0:=hB.box
 have hw1:IntKind.i64.wrap ((m:Int)-1)=(m:Int)-1:=by rw[IntKind.wrap_i64];omega
 refine callsIn_of_wp Tryz.func116 rfl h7 ?_ hro
 simp only[Tryz.ntmps116,List.size_toArray,List.length_cons,List.length_nil,Nat.reduceAdd,Nat.reduceSub,Array.replicate_succ,Array.replicate_zero,List.push_toArray,List.append_toArray,List.nil_append,List.cons_append]
 gi_wp2
 gi_loopw [3] (λv wr=>∃(k:Nat) (pre:List (Fin m)),k<=m/\v=.int .i64 ((m:Int)-1-(k:Int))/\pre.map Fin.val=(List.range k).map (λi=>m-1-i)/\BkI wr Bs g m cap a rs/\J pre wr)
  (λv _=>(intOf v+1).toNat)
 case atStart=>exact⟨0,[],Nat.zero_le _,by simp,rfl,hB,h0⟩
 case round=>
  obtain⟨k,pre,hk,rfl,hpre,hB2,hJs⟩:=hrel
  have hpl:pre.length=k:=by have:=congrArg List.length hpre;simpa using this
  by_cases hlt:k<m
  ·obtain⟨j,hj,hjm⟩:∃j:Nat,j=m-1-k/\j<m:=⟨_,rfl,by omega⟩
   have hj2:(m:Int)-1-(k:Int)=(j:Int):=by omega
   obtain⟨rfl,N,bs,hr,hc⟩:=hB2.at_ j hjm
   have hb2:=hB2.box
   obtain⟨fn,tmps,assign,body,hy,hR⟩:=hY pre ⟨j,hjm⟩ wr hJs (by omega)
   dsimp only at hy
   rw[hr] at hy
   rw[hj2]
   have h3:k+1<=m:=hlt
   have h4:pre.map Fin.val++[j]=(List.range (k+1)).map (λi=>m-1-i):=by rw[List.range_succ,List.map_append,hpre,hj];rfl
   have h5:(m:Int)-1-((k:Int)+1)=(j:Int)-1:=by omega
   clear hj hj2 hpre hlt
   have h1:(0:Int)<=(j:Int):=by omega
   have h2:(j:Int)<(m:Int):=by omega
   have hw2:IntKind.i64.wrap ((j:Int)-1)=(j:Int)-1:=by rw[IntKind.wrap_i64];omega
   gi_wp2
   refine hR.mono ?_
   rintro e W3 (⟨rfl,hJ3,hk3⟩|⟨rfl,hJx3⟩)
   ·have hB3:=hKp _ _ hk3 hB2
    gi_wp2
    go_roundw
    case rel=>exact⟨k+1,pre++[⟨j,hjm⟩],h3,by rw[<-h5];push_cast;rfl,by rw[List.map_append];exact h4,hB3,hJ3⟩
    case measure=>simp[intOf]
   ·gi_wp2
    refine bodyPost_ret (results_none rfl _ _ _) rfl ?_
    exact⟨⟨_,rfl⟩,.inr ⟨_,trivial,hJx3⟩⟩
  ·obtain rfl:k=m:=by omega
   have h1:¬((0:Int)<=(k:Int)-1-(k:Int)):=by omega
   gi_wp2
   go_end0
   exact⟨⟨_,rfl⟩,.inl ⟨pre,hpre,hJs⟩⟩
theorem uF (F:Fence)(n:Nat)(h7:F.fn 116)(hro:F.round=none)(hn:1<=n)(Bs g m cap:Nat)(a:Option Addr)(rs:List Value)(hm:m<=100000)(Kp:World->World->Prop)(hKp:∀A B,Kp A B->BkI A Bs g m cap a rs->BkI B Bs g m cap a rs)(w:World)(hB:∀W,Below w.heap.size w W->BkI W Bs g m cap a rs):
  SeqStopsK F n Tryz.prog 116 #[.pointer (some ⟨Bs,0,none⟩)] (λx:Fin m=>#[Value.int .i64 (x.1:Int),rs[x.1]?.getD .nilFunc]) Kp (λys=>ys.map Fin.val=(List.range m).map (λi=>m-1-i)) (λ_=>True) m w:=λl J Jx W hW _ _ hY h0=>
 EG F n h7 hro hn l Bs g m cap a rs hm Kp hKp J Jx hY W (hB W hW) h0
end
end Go.Proofs.YtnlffngpnoodkaaGreat
