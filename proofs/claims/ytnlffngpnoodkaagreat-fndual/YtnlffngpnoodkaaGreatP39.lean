import Derived.Test.YtnlffngpnoodkaaGreatP38
import Derived.Laws.OwnMore
namespace Go.Proofs.YtnlffngpnoodkaaGreat
set_option maxRecDepth 1000000
set_option maxHeartbeats 0
open Go.RowKit Flt
attribute [local go_sem] ic ib ia
variable {w0 w W' W2:World} {ops:Array Oper} {B P n cap i R Q k j m n1 q g c1 c2 c n3 c3:Nat} {a a1 a2 a3:Option Addr} {bs ins outs:List Int} {u1 u2 u3 x:Value} {S vs vs':List Vl}
def jN (bs:List Int)(p:Nat):Nat->List Int×List Vl×Nat
 |0=>([],[],p)
 |k+1=>((jN bs p k).1++[((1+nv bs (jN bs p k).2.2%4:Nat):Int)],(jN bs p k).2.1++[⟨0,((1+nv bs (jN bs p k).2.2%4:Nat):Int),(k:Int),0,0,0⟩],ni bs (jN bs p k).2.2)
def gwL (bs:List Int)(ins:List Int)(m:Nat):Nat->Nat->List Vl->Nat->List Vl×Nat
 |0,_,S,p=>(S,p)
 |f+1,k,S,p=>if k<m/\(k<3\/p<bs.length) then gwL bs ins m f (k+1) (S++[(gwM ins S bs p).1]) (gwM ins S bs p).2 else (S,p)
def uz (len v:Nat):Int:=if 0<v%3 then (if (len:Int)-1-((v/3%3:Nat):Int)<0 then 0 else (len:Int)-1-((v/3%3:Nat):Int)) else ((v%len:Nat):Int)
def nY (bs:List Int)(len p:Nat):Nat->List Int×Nat
 |0=>([],p)
 |k+1=>((nY bs len p k).1++[uz len (nv bs (nY bs len p k).2)],ni bs (nY bs len p k).2)
def Dd (w W:World)(P:Nat)(a:Option Addr)(n cap:Nat)(bs:List Int)(ins:List Int)(S:List Vl)(outs:List Int)(i:Nat):Prop:=
 ∃a1 c1 a2 c2 a3 c3 vs,vs.map sv=S/\Dx w W P a n cap i bs (.slice a1 ins.length c1) (.slice a2 vs.length c2) (.slice a3 outs.length c3) ins vs outs
def dgI (bs:List Int)(i:Nat):List Int×List Vl×Nat:=jN bs (ni bs i) (nv bs i%4)
def dgG (bs:List Int)(i:Nat):List Vl×Nat:=gwL bs (dgI bs i).1 (2+nv bs (dgI bs i).2.2%24) (2+nv bs (dgI bs i).2.2%24) 0 (dgI bs i).2.1 (ni bs (dgI bs i).2.2)
def dgO (bs:List Int)(i:Nat):List Int×Nat:=nY bs (dgG bs i).1.length (ni bs (dgG bs i).2) (nv bs (dgG bs i).2%5)
def DgF (w:World)(P:Nat)(a:Option Addr)(n cap:Nat)(bs:List Int)(ins:List Int)(S:List Vl)(outs:List Int)(i:Nat)(e:Ending)(w':World):Prop:=
 ∃a1 c1 a2 c2 a3 c3 vs,e=.returned (ip a1 ins.length c1 a2 vs.length c2 a3 outs.length c3)/\vs.map sv=S/\DG w' w.heap.size (.slice a1 ins.length c1) (.slice a2 vs.length c2) (.slice a3 outs.length c3) ins vs outs/\RdF w' P a n cap i bs/\Kept P (P+1) w w'
def LenS (S:List Vl):Prop:=∀k,k<S.length->1<=(vd S k).len/\(vd S k).len<=1000
theorem LenS.snoc {v:Vl}(h:LenS S)(hv:1<=v.len/\v.len<=1000):LenS (S++[v]):=λk hk=>by
 rw[List.length_append] at hk
 by_cases c:k<S.length
 ·rw[sV c];exact h k c
 ·have:k=S.length+0:=by simp at hk;omega
  rw[this,yx];exact hv
theorem LenS.of (h:LenS S)(e:vs.map sv=S):∀k,k<vs.length->1<=(vd vs k).len/\(vd vs k).len<=1000:=λk hk=>by
 rw[<-v8,e]
 exact h k (by rw[<-e,List.length_map];exact hk)
theorem oQ (bs:List Int)(p:Nat):∀k,(jN bs p k).1.length=k/\(jN bs p k).2.1.length=k
 |0=>⟨rfl,rfl⟩
 |k+1=>by
  obtain⟨h1,h2⟩:=oQ bs p k
  exact⟨by rw[jN,List.length_append,h1];rfl,by rw[jN,List.length_append,h2];rfl⟩
theorem rO (bs:List Int)(p:Nat):∀k,LenS (jN bs p k).2.1/\∀j,j<(jN bs p k).1.length->1<=(jN bs p k).1.getD j 0/\(jN bs p k).1.getD j 0<=1000
 |0=>⟨λk hk=>(by cases hk),λk hk=>(by cases hk)⟩
 |k+1=>by
  obtain⟨h1,h2⟩:=rO bs p k
  rw[jN]
  refine⟨h1.snoc (by simp only;omega),λj hj=>?_⟩
  simp only at hj ⊢
  rw[List.length_append] at hj
  by_cases c:j<(jN bs p k).1.length
  ·rw[List.getD_eq_getElem?_getD,List.getElem?_append_left c,<-List.getD_eq_getElem?_getD]
   exact h2 j c
  ·have e:j=(jN bs p k).1.length:=by simp at hj;omega
   rw[List.getD_eq_getElem?_getD,List.getElem?_append_right (by omega),e,Nat.sub_self]
   show 1<=((1+nv bs (jN bs p k).2.2%4:Nat):Int)/\((1+nv bs (jN bs p k).2.2%4:Nat):Int)<=1000
   omega
theorem Dd.of {W:World}{v s:Vl}(h:Dx w W P a n cap i bs (.slice a1 m c1) (.slice a2 (vs.length+1) c2) (.slice a3 n3 c3) ins (vs++[v]) outs)(hs:vs.map sv=S)(hv:sv v=s):Dd w W P a n cap bs ins (S++[s]) outs i:=by
 have e1:m=ins.length:=kq h.dg.r1
 have e3:n3=outs.length:=kq h.dg.r3
 subst e1 e3
 refine⟨a1,c1,a2,c2,a3,c3,vs++[v],by rw[List.map_append,hs,List.map_cons,List.map_nil,hv],?_⟩
 rw[List.length_append]
 exact h
theorem tr (w:World){o:Oper}{a:Act}{K:Act->World->Prop}{Q:Exit->Act->World->Prop}{E:Prop}(hgd:o.guard=none)(s x:Operand)
  (ho:o.op=.call {callee:=.builtin .append,args:=#[s,x],argTypes:=#[23,23]})
  (B:Nat) (v:Value) (js:List Int) (hs:a.eval s=v) (hown:w.ownsRow B 3 1 v js.length (js.map (Value.int .i64)))
  (ad:Addr) (y:Int) (hx:a.eval x=.slice (some ad) 1 1) (hnews:w.cell? ad=some (.int .i64 y))
  (h63:js.length+1<=1000000) (hbase:B<=w.heap.size)
  (h:∀g cap n w',n=(js++[y]).length->w'.ownsRow B 3 1 (.slice (some ⟨g,0,none⟩) n cap) n ((js++[y]).map (Value.int .i64))->Chg (λb=>v.ownBlock=some b) w w'->(v.ownBlock=some g\/g=w.heap.size)->K (a.put o.dst (.slice (some ⟨g,0,none⟩) n cap)) w'):if Region.wanted o (yielded ops a.tmps)=true then Oper.wp Tryz.prog o a w K Q else E:=by
 obtain⟨i0,hi,hz0,hz1,hz2⟩:=info_parts ry
 refine step_append_lies w hgd s x 23 ho B 3 i0 (.int .i64 0) 1 8 Tryz.underlying23 hi hz0 hz1 hz2 rfl (by decide) v js.length _ hs hown ad 1 1 [.int .i64 y] hx rfl ?_ ?_ (by decide) (by unfold maxLen;omega) (by omega) hbase _ rfl ?_
 ·intro j u hu
  cases j with
  |zero=>cases hu;obtain⟨b,o,m⟩:=ad;simpa[Addr.add] using hnews
  |succ j=>cases hu
 ·intro u hu;simp at hu;subst hu;rfl
 ·intro g cap w' h1 h2 h3 _
  have e:js.length+1=(js++[y]).length:=by rw[List.length_append];rfl
  rw[e] at h1 ⊢
  refine h g cap _ w' rfl ?_ (kV h2) h3
  rw[List.map_append]
  exact h1
theorem DG.setO (f:DG w B u1 u2 (.slice (some ⟨g,0,none⟩) m c) ins vs outs)(x:Int):DG (w.setCell ⟨g,k,none⟩ (.int .i64 x)) B u1 u2 (.slice (some ⟨g,0,none⟩) m c) ins vs (outs.set k x):=by
 have e:m=outs.length:=kq f.r3
 subst e
 have h3:=f.r3.stored k (.int .i64 x)
 refine⟨ir f.r1 λh=>f.a13 _ h rfl,ir f.r2 λh=>f.a23 _ h rfl,?_,f.a12,f.a13,f.a23,f.k,by simpa using f.sz⟩
 rw[List.length_set,List.map_set]
 exact h3.1
theorem Dx.setO {W:World}(f:Dx w0 W P a n cap i bs u1 u2 (.slice (some ⟨g,0,none⟩) m c) ins vs outs)(x:Int):Dx w0 (W.setCell ⟨g,k,none⟩ (.int .i64 x)) P a n cap i bs u1 u2 (.slice (some ⟨g,0,none⟩) m c) ins vs (outs.set k x):=by
 have hg:w0.heap.size+2<=g:=(ii f.dg.r3 rfl).1
 have hp:=f.p0
 have kk:Kept g (g+1) W (W.setCell ⟨g,k,none⟩ (.int .i64 x)):=it W ⟨g,k,none⟩ _ (.inl ⟨Nat.le_refl _,Nat.lt_succ_self _⟩)
 have h1:=f.k0.size
 refine⟨f.rd.keep kk (.inl (by omega)),f.dg.setO x,f.bx.kept kk (by omega),f.rs.kept kk (by omega),hp,⟨kk.os.trans f.k0.os,kk.tape.trans f.k0.tape,kk.output.trans f.k0.output,Nat.le_trans h1 kk.size,λb hb hn=>?_⟩⟩
 rw[kk.block b (by omega) (by omega)]
 exact f.k0.block b hb hn
theorem zi {xs:List Int}{y z:Int}:(xs++[y]).set xs.length z=xs++[z]:=by
 rw[List.set_append,if_neg (Nat.lt_irrefl _),Nat.sub_self];rfl
theorem Dd.ofO {W:World}(h:Dx w W P a n cap i bs (.slice a1 m c1) (.slice a2 vs.length c2) (.slice a3 n3 c3) ins vs outs)(hs:vs.map sv=S):Dd w W P a n cap bs ins S outs i:=by
 have e1:m=ins.length:=kq h.dg.r1
 have e3:n3=outs.length:=kq h.dg.r3
 subst e1 e3
 exact⟨a1,c1,a2,c2,a3,c3,vs,hs,h⟩
theorem qI (bs:List Int)(l p:Nat):∀k,(nY bs l p k).1.length=k
 |0=>rfl
 |k+1=>by rw[nY,List.length_append,qI bs l p k];rfl
theorem DG.mono {B':Nat}(f:DG w B u1 u2 u3 ins vs outs)(h:B'<=B):DG w B' u1 u2 u3 ins vs outs:=
 ⟨jP f.r1 h,jP f.r2 h,jP f.r3 h,f.a12,f.a13,f.a23,f.k,Nat.le_trans h f.sz⟩
theorem Dx.fin {W:World}(f:Dx w0 W P a n cap i bs (.slice a1 ins.length c1) (.slice a2 vs.length c2) (.slice a3 outs.length c3) ins vs outs)(hs:vs.map sv=S):
  DgF w0 P a n cap bs ins S outs i (.returned (ip a1 ins.length c1 a2 vs.length c2 a3 outs.length c3)) (iM W w0.heap.size (.slice a1 ins.length c1) (.slice a2 vs.length c2) (.slice a3 outs.length c3)):=by
 have kk:=iD W w0.heap.size (.slice a1 ins.length c1) (.slice a2 vs.length c2) (.slice a3 outs.length c3)
 have hp:=f.p0
 have h1:=f.k0.size
 refine⟨a1,c1,a2,c2,a3,c3,vs,rfl,hs,(f.dg.kept kk (by omega)).mono (by omega),f.rd.keep kk (.inl (by omega)),⟨kk.os.trans f.k0.os,kk.tape.trans f.k0.tape,kk.output.trans f.k0.output,Nat.le_trans h1 kk.size,λb hb hn=>?_⟩⟩
 refine(kk.block b (by omega) (by omega)).trans ?_
 exact f.k0.block b hb hn
theorem DM (hR:RdF w P a n cap i bs):
  Calls Tryz.prog 70 #[.pointer (some ⟨P,0,none⟩)] w (DgF w P a n cap bs (dgI bs i).1 (dgG bs i).1 (dgO bs i).1 (dgO bs i).2):=by
 have HS0:Hid _:=Dx.start hR
 have hx0:=iK hR.ys i
 have HY:Hid (∀j,nv bs j<256):=λj=>iK hR.ys j
 clear hR
 go_enter Tryz.func70,Tryz.ntmps70
 go_wp2_with fail
 generalize (w.alloc iw).alloc iw=W0 at HS0 ⊢
 refine Calls.mono HS0.out.next ?_
 rintro e W1 ⟨rfl,D1⟩
 have HD:Hid (Dd w W1 P a n cap bs (jN bs (ni bs i) 0).1 (jN bs (ni bs i) 0).2.1 [] (jN bs (ni bs i) 0).2.2):=⟨none,0,none,0,none,0,[],rfl,D1⟩
 have hnn:(nv bs i:Int)%4=((nv bs i%4:Nat):Int):=by omega
 have hn3:nv bs i%4<4:=Nat.mod_lt _ (by omega)
 generalize hNN:nv bs i%4=nn at hnn hn3
 have HNN:Hid (nn=nv bs i%4):=hNN.symm
 clear hNN
 clear D1 HS0
 go_wp2_with fail
 rw[hnn]
 clear hnn hx0
 go_loopw [5] (λt W=>∃k:Nat,k<=nn/\t=.int .i64 (k:Int)/\Hid (Dd w W P a n cap bs (jN bs (ni bs i) k).1 (jN bs (ni bs i) k).2.1 [] (jN bs (ni bs i) k).2.2)) (λt _=>nn-(intOf t).toNat)
 case atStart=>exact⟨0,Nat.zero_le _,rfl,HD.out⟩
 case round=>
  obtain⟨k,hk,rfl,hD⟩:=hrel
  obtain⟨a1,c1,a2,c2,a3,c3,vs,hsv,D⟩:=hD.out
  rw[List.length_nil] at D
  clear HD
  by_cases hlt:k<nn
  ·have HD:Hid _:=D
   go_wp2_with fail
   refine Calls.mono HD.out.next ?_
   rintro e W2 ⟨rfl,D2⟩
   have hxk:=HY.out (jN bs (ni bs i) k).2.2
   have hx4:(1:Int)+(nv bs (jN bs (ni bs i) k).2.2:Int)%4=((1+nv bs (jN bs (ni bs i) k).2.2%4:Nat):Int):=by omega
   have HSV:Hid _:=hsv
   have HI:Hid _:=oQ bs (ni bs i) k
   have HN:Hid (jN bs (ni bs i) (k+1)=((jN bs (ni bs i) k).1++[((1+nv bs (jN bs (ni bs i) k).2.2%4:Nat):Int)],(jN bs (ni bs i) k).2.1++[⟨0,((1+nv bs (jN bs (ni bs i) k).2.2%4:Nat):Int),(k:Int),0,0,0⟩],ni bs (jN bs (ni bs i) k).2.2)):=rfl
   replace HD:Hid _:=D2
   clear D D2 hsv hD
   generalize jN bs (ni bs i) k=J at HD HN HI HSV hx4 hxk ⊢
   generalize 1+nv bs J.2.2%4=d at hx4 HN
   generalize hL1:J.1.length=l1 at HD
   have hl1:l1=k:=by rw[<-hL1];exact HI.out.1
   have HL1:Hid _:=hL1
   clear hL1
   subst hl1
   have D3:=HD.out.keep (hU 0 0 W2 (.cells #[.int .i64 (d:Int)] 3))
   have hr3:=D3.dg.r1
   have HD3:Hid _:=D3
   have q0:=HD.out.bx.q0
   clear D3
   go_wp2_with (first|(at_builtin;refine jd _ rfl _ _ rfl (w.heap.size+2) _ J.1 rfl hr3 ⟨W2.heap.size,0,none⟩ (d:Int) rfl (by simp) (by have:=HI.out.1;omega) HD3.out.dg.sz ?_;intro g9 cap9 n9 w9 hn9 hown9 hc9 hat9;have hb9:=jC HD3.out.bx hc9 (λc=>by have:=(ii HD3.out.dg.r1 c).1;omega);have HD4:Hid _:=HD3.out.ins_ hc9 hown9 hn9 hat9;replace hn9:Hid _:=hn9;obtain⟨_,z0,z1,z2,f0,f1,f2⟩:=hb9))
   generalize w9.setCell ⟨w.heap.size+1,0,none⟩ (.slice (some ⟨g9,0,none⟩) n9 cap9)=W4 at HD4 ⊢
   clear hown9 hc9 hat9 z0 z1 z2 f0 f1 f2 q0 hr3 HD3 HD
   have HF:Hid (∀W5,Kept 0 0 W4 W5->_):=λW5 k5=>HD4.out.put k5 (ik 0 (d:Int) (l1:Int) 0 0) (Nat.zero_lt_succ _) (by have:=HI.out.2;have h9:=congrArg List.length HSV.out;rw[List.length_map] at h9;omega)
   obtain⟨_,z0,z1,z2,f0,f1,f2⟩:=HD4.out.bx
   go_region_with (first
    |(go_at_call 50;refine Calls.mono (HF.out _ ((ie _).trans k5)) ?_;rintro e W9 ⟨g',cap',rfl,hrb,hfin⟩;obtain⟨_,r0,r1,r2,rf0,rf1,rf2⟩:=hrb)
    |(go_at_call 55;refine Calls.mono (lz _ _ _ _ _ _) ?_;rintro e W5 ⟨rfl,k5⟩;obtain⟨_,s0,s1,s2,_,_,_⟩:=(HD4.out.keep ((ie _).trans k5)).bx))
   all_goals
    go_wp2_with fail
    go_roundw
    case rel=>
     exact⟨l1+1,by omega,by go_num,by rw[HN.out];exact Dd.of hfin HSV.out rfl⟩
    case measure=>simp[intOf];omega
  ·have HE:Hid (Dd w wr P a n cap bs (jN bs (ni bs i) nn).1 (jN bs (ni bs i) nn).2.1 [] (jN bs (ni bs i) nn).2.2):=by
    have e:k=nn:=by omega
    rw[<-e]
    exact hD.out
   have HLi:Hid _:=oQ bs (ni bs i) nn
   clear D hsv hD
   have HG:Hid (gwL bs (jN bs (ni bs i) nn).1 (2+nv bs (jN bs (ni bs i) nn).2.2%24) (2+nv bs (jN bs (ni bs i) nn).2.2%24-0) 0 (jN bs (ni bs i) nn).2.1 (ni bs (jN bs (ni bs i) nn).2.2)=dgG bs i):=by rw[HNN.out];rfl
   have HLn:Hid _:=rO bs (ni bs i) nn
   have HGS0:Hid _:=(rfl:dgG bs i=dgG bs i)
   generalize hGG:dgG bs i=G at HG ⊢
   replace HGS0:Hid (dgG bs i=G):=hGG
   clear hGG
   have HJ0:Hid (dgI bs i=jN bs (ni bs i) nn):=by show dgI bs i=_;rw[HNN.out];rfl
   generalize jN bs (ni bs i) nn=J at HE HLi HG HLn HJ0 ⊢
   obtain⟨a1,c1,a2,c2,a3,c3,vs,hsv,D⟩:=HE.out
   have HD:Hid _:=D
   have HSV:Hid _:=hsv
   clear D hsv HE
   go_wp2_with fail
   refine Calls.mono HD.out.next ?_
   rintro e W2 ⟨rfl,D2⟩
   have hx:=HY.out J.2.2
   have hm24:(2:Int)+(nv bs J.2.2:Int)%24=((2+nv bs J.2.2%24:Nat):Int):=by omega
   have hm25:2+nv bs J.2.2%24<=25:=by omega
   have hm2:2<=2+nv bs J.2.2%24:=by omega
   generalize 2+nv bs J.2.2%24=m at hm24 hm25 hm2 HG
   have HE2:Hid (Dd w W2 P a n cap bs J.1 J.2.1 [] (ni bs J.2.2)):=⟨a1,c1,a2,c2,a3,c3,vs,HSV.out,D2⟩
   clear D2 HD HSV
   go_wp2_with fail
   try rw[hm24]
   clear hm24
   go_loopw [8] (λt W=>∃(k:Nat) (S:List Vl) (p:Nat),k<=m/\t=.int .i64 (k:Int)/\Hid (Dd w W P a n cap bs J.1 S [] p)/\Hid (LenS S)/\Hid (S.length=nn+k)/\Hid (gwL bs J.1 m (m-k) k S p=G)) (λt _=>m-(intOf t).toNat)
   case atStart=>exact⟨0,J.2.1,_,Nat.zero_le _,rfl,HE2.out,HLn.out.1,by rw[HLi.out.2];rfl,HG.out⟩
   case round=>
    obtain⟨k2,S,p,hk2,rfl,hD2,hLS,hSl,hG2⟩:=hrel
    obtain⟨a1,c1,a2,c2,a3,c3,vs,hsv,D⟩:=hD2.out
    clear HE2 HG
    have HLen:Hid _:=hLS.out.of hsv
    have hvl:vs.length=S.length:=by rw[<-hsv,List.length_map]
    have hv0:vs.length<=100000:=by have:=hSl.out;omega
    have HG0:Hid (∀v g' cap' W9,sv v=(gwM J.1 vs bs p).1->Dx w W9 P a n cap (gwM J.1 vs bs p).2 bs (.slice a1 J.1.length c1) (.slice (some ⟨g',0,none⟩) (vs.length+1) cap') (.slice a3 0 c3) J.1 (vs++[v]) []->k2<m->(k2<3\/p<bs.length)->∃(S':List Vl) (p':Nat),Dd w W9 P a n cap bs J.1 S' [] p'/\LenS S'/\S'.length=nn+(k2+1)/\gwL bs J.1 m (m-(k2+1)) (k2+1) S' p'=G):=λv g' cap' W9 h1 h2 h3 h4=>by
     have eg:gwM J.1 vs bs p=gwM J.1 S bs p:=by rw[<-DI,hsv]
     rw[eg] at h1 h2
     refine⟨S++[(gwM J.1 S bs p).1],(gwM J.1 S bs p).2,Dd.of h2 hsv h1,hLS.out.snoc (Bo HLn.out.2 hLS.out),by rw[List.length_append,hSl.out];rfl,?_⟩
     have:=hG2.out
     rw[show m-k2=(m-(k2+1))+1 by omega,gwL,if_pos ⟨h3,h4⟩] at this
     exact this
    have HGx:Hid (¬(k2<m/\(k2<3\/p<bs.length))->G=(S,p)):=λc=>by
     have:=hG2.out
     cases hm:m-k2 with
     |zero=>rw[hm,gwL] at this;exact this.symm
     |succ x=>rw[hm,gwL,if_neg c] at this;exact this.symm
    rw[List.length_nil] at D
    have HD:Hid _:=D
    have HSV:Hid _:=hsv
    have HGr:Hid (∀W',Kept 0 0 wr W'->_):=λW' kk=>(HD.out.keep kk).grow hv0 HLen.out
    have HLf:Hid _:=E6 D.rd
    clear D hsv hG2 hLS hvl hD2
    by_cases hc:k2<m/\(k2<3\/p<bs.length)
    ·have hlt:=hc.1
     have HC:Hid _:=hc.2
     clear hc HGx
     by_cases h3:k2<3
     ·obtain⟨_,z0,z1,z2,f0,f1,f2⟩:=HD.out.bx
      go_wp2_with (first|(go_at_call 108;refine Calls.mono (HGr.out _ (Kept.refl 0 0 _)) ?_;rintro e W9 ⟨v,g',cap',rfl,hsv9,hrb,hfin⟩;obtain⟨_,r0,r1,r2,rf0,rf1,rf2⟩:=hrb))
      go_roundw
      case rel=>
       obtain⟨S',p',x1,x2,x3,x4⟩:=HG0.out v g' cap' _ hsv9 hfin hlt HC.out
       exact⟨k2+1,S',p',by omega,by go_num,x1,x2,x3,x4⟩
      case measure=>simp[intOf];omega
     ·have hpl:(p:Int)<(bs.length:Int):=by have:=HC.out;omega
      have hps:=HD.out.rd.small
      have hpn:(bs.length:Int)<=500:=by have:=HD.out.rd.ys.len;omega
      clear hps
      go_wp2_with (first
       |(go_at_call 107;refine Calls.mono HLf.out ?_;rintro e W7 ⟨rfl,k7⟩;obtain⟨_,z0,z1,z2,f0,f1,f2⟩:=(HD.out.keep k7).bx)
       |(go_at_call 108;refine Calls.mono (HGr.out _ k7) ?_;rintro e W9 ⟨v,g',cap',rfl,hsv9,hrb,hfin⟩;obtain⟨_,r0,r1,r2,rf0,rf1,rf2⟩:=hrb))
      go_roundw
      case rel=>
       obtain⟨S',p',x1,x2,x3,x4⟩:=HG0.out v g' cap' _ hsv9 hfin hlt HC.out
       exact⟨k2+1,S',p',by omega,by go_num,x1,x2,x3,x4⟩
      case measure=>simp[intOf];omega
    ·have hgx:=HGx.out hc
     clear HG0 HGx HGr
     have HS2:Hid (2<=S.length):=by have:=hSl.out;show 2<=_;omega
     have HGS:Hid _:=hgx
     have HVL:Hid (vs.length=S.length):=by show vs.length=_;rw[<-HSV.out,List.length_map]
     clear hgx
     rcases (by omega:¬k2<m\/(k2<m/\¬k2<3/\¬p<bs.length)) with hA|hB
     case' inl=>
      clear hc
      have HD7:Hid _:=HD.out
      go_wp2_with fail
     case' inr=>
      obtain⟨hB1,hB2,hB3⟩:=hB
      have hpl:(bs.length:Int)<=(p:Int):=by omega
      have hpn:(bs.length:Int)<=500/\(p:Int)<=500:=by have:=HD.out.rd.ys.len;have:=HD.out.rd.small;have:=HD.out.rd.hi;omega
      obtain⟨hpn1,hpn2⟩:=hpn
      clear hc hB3
      go_wp2_with (first|(go_at_call 107;refine Calls.mono HLf.out ?_;rintro e W7 ⟨rfl,k7⟩;have HD7:Hid _:=HD.out.keep k7;clear k7))
     all_goals
      refine Calls.mono HD7.out.next ?_
      rintro e W8 ⟨rfl,D8⟩
      have hx5:(nv bs p:Int)%5=((nv bs p%5:Nat):Int):=by omega
      have hn5:nv bs p%5<5:=Nat.mod_lt _ (by omega)
      have HO5:Hid (dgO bs i=nY bs S.length (ni bs p) (nv bs p%5)):=by show dgO bs i=_;unfold dgO;rw[HGS0.out,HGS.out]
      generalize nv bs p%5=n5 at hx5 hn5 HO5
      have HE8:Hid (Dd w W8 P a n cap bs J.1 S (nY bs S.length (ni bs p) 0).1 (nY bs S.length (ni bs p) 0).2):=⟨a1,c1,a2,c2,a3,c3,vs,HSV.out,D8⟩
      clear D8 HD7 HD
      go_wp2_with fail
      try rw[hx5]
      clear hx5
      go_loopw [9] (λt W=>∃k:Nat,k<=n5/\t=.int .i64 (k:Int)/\Hid (Dd w W P a n cap bs J.1 S (nY bs S.length (ni bs p) k).1 (nY bs S.length (ni bs p) k).2)) (λt _=>n5-(intOf t).toNat)
      case atStart=>exact⟨0,Nat.zero_le _,rfl,HE8.out⟩
      case round=>
       obtain⟨k3,hk3,rfl,hD3⟩:=hrel
       clear HE8
       by_cases hlt3:k3<n5
       ·obtain⟨a1,c1,a2,c2,a3,c3,vs,hsv,D⟩:=hD3.out
        have HLo:Hid _:=qI bs S.length (ni bs p) k3
        have HN:Hid (nY bs S.length (ni bs p) (k3+1)=((nY bs S.length (ni bs p) k3).1++[uz S.length (nv bs (nY bs S.length (ni bs p) k3).2)],ni bs (nY bs S.length (ni bs p) k3).2)):=rfl
        have HSV2:Hid _:=hsv
        have HVL2:Hid (vs.length=S.length):=by show vs.length=_;rw[<-hsv,List.length_map]
        have HD:Hid _:=D
        clear D hsv hD3
        generalize nY bs S.length (ni bs p) k3=O at HD HN HLo ⊢
        rw[HLo.out] at HD
        go_wp2_with fail
        refine Calls.mono HD.out.next ?_
        rintro e W9 ⟨rfl,D9⟩
        have hx:=HY.out O.2
        generalize nv bs O.2=x at hx HN ⊢
        replace HD:Hid _:=D9
        clear D9
        have hlv:vs.length<=100:=by have:=HVL2.out;have:=hSl.out;omega
        have hlv2:2<=vs.length:=by have:=HVL2.out;have:=HS2.out;omega
        generalize hvl:vs.length=l at HD hlv hlv2
        have HVl:Hid _:=hvl
        clear hvl
        by_cases h3:0<x%3
        ·have h3':0<(x:Int)%3:=by omega
         have hy:(l:Int)-1-(x:Int)/3%3=(l:Int)-1-((x/3%3:Nat):Int):=by omega
         have HX:Hid (uz S.length x=if (l:Int)-1-((x/3%3:Nat):Int)<0 then 0 else (l:Int)-1-((x/3%3:Nat):Int)):=by show uz _ _=_;unfold uz;rw[if_pos h3,<-HVL2.out,HVl.out]
         have hyb:-3<=(l:Int)-1-((x/3%3:Nat):Int)/\(l:Int)-1-((x/3%3:Nat):Int)<=100:=by omega
         generalize (l:Int)-1-((x/3%3:Nat):Int)=y at hy HX hyb
         have D3:=HD.out.keep (hU 0 0 W9 (.cells #[.int .i64 y] 3))
         have hr3:=D3.dg.r3
         have HD3:Hid _:=D3
         obtain⟨_,q0,q1,q2,_,_,_⟩:=HD.out.bx
         clear D3
         go_upto_region 22 with (first|(at_builtin;refine jd _ rfl _ _ rfl (w.heap.size+2) _ O.1 rfl hr3 ⟨W9.heap.size,0,none⟩ y rfl (by simp) (by have:=HLo.out;omega) HD3.out.dg.sz ?_;intro g9 cap9 n9 w9 hn9 hown9 hc9 hat9;have hb9:=jC HD3.out.bx hc9 (λc=>by have:=(ii HD3.out.dg.r3 c).1;omega);have HD4:Hid _:=HD3.out.outs_ hc9 hown9 hn9 hat9;replace hn9:Hid _:=hn9;obtain⟨_,z0,z1,z2,f0,f1,f2⟩:=hb9))
         generalize w9.setCell ⟨w.heap.size+1,2,none⟩ (.slice (some ⟨g9,0,none⟩) n9 cap9)=W4 at HD4 ⊢
         have hk9:k3<n9:=by have:=hn9.out;rw[List.length_append,HLo.out] at this;simp at this;omega
         have hrow:=HD4.out.dg.r3
         obtain⟨g8,cp8,eu,_,hg8,hcell⟩:=yN hrow rfl (k:=k3) (by rw[List.length_append,HLo.out];simp)
         have hyv:(O.1++[y]).getD k3 0=y:=by rw[List.getD_eq_getElem?_getD,List.getElem?_append_right (by rw[HLo.out];exact Nat.le_refl _),HLo.out,Nat.sub_self];rfl
         rw[hyv] at hcell
         injection eu with e1 e2 e3
         injection e1 with e1
         injection e1 with e1
         subst e1
         obtain⟨_,t0,t1,t2,_,_,_⟩:=HD4.out.bx
         have hfz:W4.frozen? ⟨g9,k3,none⟩=false:=by
          have hr:=HD4.out.dg.r3
          have en:n9=(O.1++[y]).length:=kq hr
          rw[en] at hr
          exact hr.frozenAt k3
         clear hrow hyv e2 e3 hown9 hc9 hat9 z0 z1 z2 f0 f1 f2 hr3 HD3 q0 q1 q2 hg8
         by_cases hy0:y<0
         ·have HO:Hid _:=HD4.out.setO (k:=k3) 0
          go_wp2_with fail
          go_roundw
          case rel=>
           refine⟨k3+1,by omega,by go_num,?_⟩
           have hst:=HO.out
           rw[show k3=O.1.length from HLo.out.symm,zi,HLo.out,<-HVl.out] at hst
           rw[HN.out,HX.out,if_pos hy0]
           exact Dd.ofO hst HSV2.out
          case measure=>simp[intOf];omega
         ·go_wp2_with fail
          go_roundw
          case rel=>
           have hst:=HD4.out
           rw[<-HVl.out] at hst
           exact⟨k3+1,by omega,by go_num,by rw[HN.out,HX.out,if_neg hy0];exact Dd.ofO hst HSV2.out⟩
          case measure=>simp[intOf];omega
        ·have h3':¬0<(x:Int)%3:=by omega
         have hxl:(x:Int)%(l:Int)=((x%l:Nat):Int):=by rw[Int.natCast_emod]
         have HX:Hid (uz S.length x=((x%l:Nat):Int)):=by show uz _ _=_;unfold uz;rw[if_neg h3,<-HVL2.out,HVl.out]
         have hyl:x%l<l:=Nat.mod_lt _ (by omega)
         generalize x%l=y' at hxl HX hyl
         obtain⟨y,hyy⟩:∃y:Int,(y':Int)=y:=⟨_,rfl⟩
         rw[hyy] at hxl HX
         have hy0:¬y<0:=by omega
         have hy1:y<=100:=by omega
         have hl0:¬l=0:=by omega
         have htm:(x:Int).tmod (l:Int)=y:=(Int.tmod_eq_emod_of_nonneg (by omega)).trans hxl
         clear hyy
         have D3:=HD.out.keep ((hU 0 0 W9 (.cells #[.int .i64 y] 3)).trans (iq 0 0 _ 1))
         have hr3:=D3.dg.r3
         have HD3:Hid _:=D3
         obtain⟨_,q0,q1,q2,_,_,_⟩:=HD.out.bx
         clear D3
         go_upto_region 21 with fail
         go_region_law ((refine tr _ rfl (.tmp 82) (.tmp 88) rfl (w.heap.size+2) _ O.1 (by simp[Act.eval]) hr3 ⟨W9.heap.size,0,none⟩ y (by simp[Act.eval]) (by simp) (by have:=HLo.out;omega) HD3.out.dg.sz ?_;intro g9 cap9 n9 w9 hn9 hown9 hc9 hat9;have hb9:=jC HD3.out.bx hc9 (λc=>by have:=(ii HD3.out.dg.r3 c).1;omega);have HD4:Hid _:=HD3.out.outs_ hc9 hown9 hn9 hat9;replace hn9:Hid _:=hn9;obtain⟨_,z0,z1,z2,f0,f1,f2⟩:=hb9))
         all_goals
          generalize w9.setCell ⟨w.heap.size+1,2,none⟩ (.slice (some ⟨g9,0,none⟩) n9 cap9)=W4 at HD4 ⊢
          have hk9:k3<n9:=by have:=hn9.out;rw[List.length_append,HLo.out] at this;simp at this;omega
          have hrow:=HD4.out.dg.r3
          obtain⟨g8,cp8,eu,_,hg8,hcell⟩:=yN hrow rfl (k:=k3) (by rw[List.length_append,HLo.out];simp)
          have hyv:(O.1++[y]).getD k3 0=y:=by rw[List.getD_eq_getElem?_getD,List.getElem?_append_right (by rw[HLo.out];exact Nat.le_refl _),HLo.out,Nat.sub_self];rfl
          rw[hyv] at hcell
          injection eu with e1 e2 e3
          injection e1 with e1
          injection e1 with e1
          subst e1
          obtain⟨_,t0,t1,t2,_,_,_⟩:=HD4.out.bx
          have hfz:W4.frozen? ⟨g9,k3,none⟩=false:=by
           have hr:=HD4.out.dg.r3
           have en:n9=(O.1++[y]).length:=kq hr
           rw[en] at hr
           exact hr.frozenAt k3
          clear hrow hyv e2 e3 hown9 hc9 hat9 z0 z1 z2 f0 f1 f2 hr3 HD3 q0 q1 q2 hg8
          go_wp2_with fail
          go_roundw
          case rel=>
           have hst:=HD4.out
           rw[<-HVl.out] at hst
           exact⟨k3+1,by omega,by go_num,by rw[HN.out,HX.out];exact Dd.ofO hst HSV2.out⟩
          case measure=>simp[intOf];omega
       ·have e3:k3=n5:=by omega
        have HF:Hid (Dd w wr P a n cap bs (dgI bs i).1 (dgG bs i).1 (dgO bs i).1 (dgO bs i).2):=by
         show Dd _ _ _ _ _ _ _ _ _ _ _
         rw[HGS0.out,HGS.out,HJ0.out,HO5.out,<-e3]
         exact hD3.out
        clear hD3 e3
        obtain⟨a1,c1,a2,c2,a3,c3,vs,hsv,D⟩:=HF.out
        have HFin:Hid _:=D.fin hsv
        obtain⟨_,q0,q1,q2,_,_,_⟩:=D.bx
        obtain⟨_,r0,r1,r2,f0,f1,f2⟩:=D.rs
        clear D hsv HF
        go_wp2_with fail
        obtain⟨t0,t1,t2⟩:=iy wr w.heap.size _ _ _ r0 r1 r2 (.slice a1 (dgI bs i).1.length c1) (.slice a2 vs.length c2) (.slice a3 (dgO bs i).1.length c3)
        exact bodyPost_ret (v:=ip a1 (dgI bs i).1.length c1 a2 vs.length c2 a3 (dgO bs i).1.length c3) (by simp[results,Tryz.results70,go_sem,t0,t1,t2]) rfl HFin.out
structure Dy (w0 W:World)(P:Nat)(a:Option Addr)(n cap i:Nat)(bs:List Int)(R Q:Nat)(u1 u2 u3:Value)(ins:List Int)(vs:List Vl)(outs:List Int):Prop where
 rd:RdF W P a n cap i bs
 dg:DG W w0.heap.size u1 u2 u3 ins vs outs
 bx:RB W Q u1 u2 u3
 rs:RB W R jw jw jw
 p0:P<w0.heap.size
 rq:w0.heap.size<=R/\w0.heap.size<=Q/\R≠Q
 nr:∀b,u1.ownBlock=some b\/u2.ownBlock=some b\/u3.ownBlock=some b->b≠R/\b≠Q
 k0:Kept P (P+1) w0 W
theorem Dy.step {W:World}{i':Nat}(f:Dy w0 W P a n cap i bs R Q u1 u2 u3 ins vs outs)(hR:RdF W' P a n cap i' bs)(k:Kept P (P+1) W W'):Dy w0 W' P a n cap i' bs R Q u1 u2 u3 ins vs outs:=
 ⟨hR,f.dg.kept k (by have:=f.p0;omega),f.bx.kept k (by have:=f.p0;have:=f.rq;omega),f.rs.kept k (by have:=f.p0;have:=f.rq;omega),f.p0,f.rq,f.nr,f.k0.trans k⟩
theorem Dy.keep {W:World}(f:Dy w0 W P a n cap i bs R Q u1 u2 u3 ins vs outs)(k:Kept 0 0 W W'):Dy w0 W' P a n cap i bs R Q u1 u2 u3 ins vs outs:=f.step (f.rd.keep0 k) (iI k)
theorem Dy.next {W:World}(f:Dy w0 W P a n cap i bs R Q u1 u2 u3 ins vs outs):
  Calls Tryz.prog 37 #[.pointer (some ⟨P,0,none⟩)] W λe W'=>e=.returned (.int .i64 (nv bs i:Int))/\Dy w0 W' P a n cap (ni bs i) bs R Q u1 u2 u3 ins vs outs:=
 (lj W P a n cap i bs f.rd).mono λ_ _ q=>⟨q.1,f.step q.2.1 q.2.2.1⟩
theorem Dy.vals {W:World}(f:Dy w0 W P a n cap i bs R Q u1 u2 u3 ins vs outs)(c9:Chg (λb=>u2.ownBlock=some b) W W')(ho:W'.ownsRow w0.heap.size 31 6 (.slice (some ⟨g,0,none⟩) m c) m (iN vs'))(hm:m=vs'.length)(hg:u2.ownBlock=some g\/W.heap.size<=g)(hk:∀v∈vs',v.k<18446744073709551616)(kk:Kept Q (Q+1) W' W2)(hb:RB W2 Q u1 (.slice (some ⟨g,0,none⟩) m c) u3):Dy w0 W2 P a n cap i bs R Q u1 (.slice (some ⟨g,0,none⟩) m c) u3 ins vs' outs:=by
 have hp:=f.p0
 have hq:=f.rq
 have hB:∀b,u2.ownBlock=some b->w0.heap.size<=b/\b≠R/\b≠Q:=λb hb=>⟨(ii f.dg.r2 hb).1,f.nr b (.inr (.inl hb))⟩
 have hgn:g≠R/\g≠Q:=by
  rcases hg with c|c
  ·exact(hB g c).2
  ·have:=f.rs.sz;have:=f.bx.sz;omega
 have hr:=jC f.rs c9 (λc=>(hB _ c).2.1 rfl)
 have hd:=f.dg.vals c9 ho hm hg hk
 have hrd:=pp f.rd c9 λb hb=>by have:=(hB b hb).1;omega
 have own:∀{u:Value} {xs:List Value} {m e s:Nat},W'.ownsRow w0.heap.size e s u m xs->(∀b,u.ownBlock=some b->b≠Q)->W2.ownsRow w0.heap.size e s u m xs:=λo h=>iR o kk λb hb=>by have:=h b hb;omega
 refine⟨hrd.keep kk (.inl (by omega)),⟨own hd.r1 λb hb=>(f.nr b (.inl hb)).2,own hd.r2 λb hb=>?_,own hd.r3 λb hb=>(f.nr b (.inr (.inr hb))).2,hd.a12,hd.a13,hd.a23,hd.k,Nat.le_trans hd.sz kk.size⟩,hb,hr.kept kk (by omega),hp,hq,?_,⟨kk.os.trans (c9.os.trans f.k0.os),kk.tape.trans (c9.tape.trans f.k0.tape),kk.output.trans (c9.output.trans f.k0.output),Nat.le_trans f.k0.size (Nat.le_trans c9.size kk.size),λb hb hn=>?_⟩⟩
 ·have e:b=g:=by simpa[Value.ownBlock] using hb.symm
  subst e;exact hgn.2
 ·rintro b (h|h|h)
  ·exact f.nr b (.inl h)
  ·have e:b=g:=by simpa[Value.ownBlock] using h.symm
   subst e;exact hgn
  ·exact f.nr b (.inr (.inr h))
 ·have h1:=f.k0.size
  have h2:=c9.size
  rw[kk.block b (by omega) (by omega),c9.block b (by omega) (λq=>by have:=(hB b q).1;omega)]
  exact f.k0.block b hb hn
theorem Dy.put {W:World}{W1:World}(f:Dy w0 W P a n cap i bs R Q (.slice a1 n1 c1) (.slice a2 vs.length c2) (.slice a3 n3 c3) ins vs outs)(k:Kept 0 0 W W1)(v:Vl)(hv:v.k<18446744073709551616)(hn:vs.length<=100000):
  Calls Tryz.prog 50 #[ip a1 n1 c1 a2 vs.length c2 a3 n3 c3,v.agg] W1 λe W9=>∃g' cap',e=.returned (ip a1 n1 c1 (some ⟨g',0,none⟩) (vs.length+1) cap' a3 n3 c3)/\RB W9 Q (.slice a1 n1 c1) (.slice a2 vs.length c2) (.slice a3 n3 c3)/\Dy w0 (iM W9 Q (.slice a1 n1 c1) (.slice (some ⟨g',0,none⟩) (vs.length+1) cap') (.slice a3 n3 c3)) P a n cap i bs R Q (.slice a1 n1 c1) (.slice (some ⟨g',0,none⟩) (vs.length+1) cap') (.slice a3 n3 c3) ins (vs++[v]) outs:=by
 have f1:=f.keep k
 refine(rF W1 a1 a2 a3 n1 c1 c2 n3 c3 w0.heap.size vs v f1.dg.r2 f1.dg.sz (by omega)).mono ?_
 rintro e W9 ⟨g',cap',rfl,hown,hs⟩
 have c9:Chg (λb=>(Value.slice a2 vs.length c2).ownBlock=some b) W1 W9:=⟨hs.chg.os,hs.chg.tape,hs.chg.output,hs.chg.size,λb hb hn=>hs.chg.block b hb (by rintro (c|c);exact c;exact hn c)⟩
 have hg:(Value.slice a2 vs.length c2).ownBlock=some g'\/W1.heap.size<=g':=by
  rcases hs.row with c|⟨r,c,hr⟩
  ·exact .inl c.symm
  ·cases c;exact .inr hr
 have hk:∀u∈vs++[v],u.k<18446744073709551616:=λu hu=>by
  rcases List.mem_append.1 hu with c|c
  ·exact f.dg.k u c
  ·simp only[List.mem_singleton] at c;subst c;exact hv
 have hb:=jC f1.bx c9 (λc=>(f.nr _ (.inr (.inl c))).2 rfl)
 exact⟨g',cap',rfl,hb,f1.vals c9 hown (by simp) hg hk (iD _ _ _ _ _) (tj hb _ _ _)⟩
theorem Dy.fin {W:World}(f:Dy w0 W P a n cap i bs R Q (.slice a1 n1 c1) (.slice a2 vs.length c2) (.slice a3 n3 c3) ins vs outs)(hs:vs.map sv=S):
  DgF w0 P a n cap bs ins S outs i (.returned (ip a1 n1 c1 a2 vs.length c2 a3 n3 c3)) (iM W R (.slice a1 n1 c1) (.slice a2 vs.length c2) (.slice a3 n3 c3)):=by
 have e1:n1=ins.length:=kq f.dg.r1
 have e3:n3=outs.length:=kq f.dg.r3
 subst e1 e3
 have kk:=iD W R (.slice a1 ins.length c1) (.slice a2 vs.length c2) (.slice a3 outs.length c3)
 have hp:=f.p0
 have hq:=f.rq
 have h1:=f.k0.size
 have own:∀{u:Value} {xs:List Value} {m e s:Nat},W.ownsRow w0.heap.size e s u m xs->(∀b,u.ownBlock=some b->b≠R)->(iM W R (.slice a1 ins.length c1) (.slice a2 vs.length c2) (.slice a3 outs.length c3)).ownsRow w0.heap.size e s u m xs:=λo h=>iR o kk λb hb=>by have:=h b hb;omega
 refine⟨a1,c1,a2,c2,a3,c3,vs,rfl,hs,⟨own f.dg.r1 λb hb=>(f.nr b (.inl hb)).1,own f.dg.r2 λb hb=>(f.nr b (.inr (.inl hb))).1,own f.dg.r3 λb hb=>(f.nr b (.inr (.inr hb))).1,f.dg.a12,f.dg.a13,f.dg.a23,f.dg.k,Nat.le_trans f.dg.sz kk.size⟩,f.rd.keep kk (.inl (by omega)),⟨kk.os.trans f.k0.os,kk.tape.trans f.k0.tape,kk.output.trans f.k0.output,Nat.le_trans h1 kk.size,λb hb hn=>?_⟩⟩
 refine(kk.block b (by omega) (by omega)).trans ?_
 exact f.k0.block b hb hn
theorem nl (w:World){rest:List Oper}{o:Oper}{a:Act}{Q:Exit->Act->World->Prop}(hgd:o.guard=none)(s x:Operand)
  (ho:o.op=.call {callee:=.builtin .append,args:=#[s,x],argTypes:=#[24,24]})
  (B:Nat) (u:Value) (vs:List Vl) (hs:a.eval s=u) (hown:w.ownsRow B 31 6 u vs.length (iN vs))
  (b:Nat) (v:Vl) (hx:a.eval x=.slice (some ⟨b,0,none⟩) 1 1) (hnews:∀j u,v.cells[j]? =some u->w.cell? ((⟨b,0,none⟩:Addr).add j)=some u)
  (h63:vs.length+1<=1000000) (hbase:B<=w.heap.size)
  (h:∀g cap n w',n=(vs++[v]).length->w'.ownsRow B 31 6 (.slice (some ⟨g,0,none⟩) n cap) n (iN (vs++[v]))->Chg (λb=>u.ownBlock=some b) w w'->(u.ownBlock=some g\/g=w.heap.size)->wpList Tryz.prog ops Q rest (a.put o.dst (.slice (some ⟨g,0,none⟩) n cap)) w'):wpList Tryz.prog ops Q (o::rest) a w:=by
 obtain⟨i0,hi,hz0,hz1,hz2⟩:=info_parts tP
 refine wpList_append_lies w hgd s x 24 ho B 31 i0 (jA 0 0 0 0 0 0) 6 48 Tryz.underlying24 hi hz0 hz1 hz2 rfl (by decide) u vs.length _ hs hown ⟨b,0,none⟩ 1 1 v.cells hx rfl hnews (Af v) (by decide) (by unfold maxLen;omega) (by omega) hbase _ rfl ?_
 intro g cap w' h1 h2 h3 _
 have e:vs.length+1=(vs++[v]).length:=by rw[List.length_append];rfl
 rw[e] at h1 ⊢
 refine h g cap _ w' rfl ?_ (kV h2) h3
 rw[m9,qb]
 exact h1
def mU (sz:Nat):Nat->List Vl
 |0=>[]
 |k+1=>mU sz k++[⟨1,(sz:Int),0,0,0,0⟩]
theorem lK (sz:Nat):∀k,(mU sz k).length=k
 |0=>rfl
 |k+1=>by rw[mU,List.length_append,lK sz k];rfl
def Dw (w W:World)(P:Nat)(a:Option Addr)(n cap i:Nat)(bs:List Int)(S:List Vl):Prop:=
 ∃a2 c2 vs,vs.map sv=S/\Dy w W P a n cap i bs w.heap.size (w.heap.size+2) jw (.slice a2 vs.length c2) (.slice (some ⟨w.heap.size+1,0,none⟩) 1 1) [] vs [0]
theorem tu {W:World}{p:Nat}{b0 b1 b2:Value}(t:RB W p b0 b1 b2)(x:Value):RB (W.setCell ⟨p,1,none⟩ x) p b0 x b2:=
 ⟨by simpa using t.sz,by rw[iB _ _ _ _ _ _ (.inr (by omega))];exact t.q0,jI _ _ _ _ _ t.q1,by rw[iB _ _ _ _ _ _ (.inr (by omega))];exact t.q2,by simp[t.f0],by simp[t.f1],by simp[t.f2]⟩
theorem vw (hR:RdF w P a n cap i bs):
  Dy w (((w.alloc iw).alloc (.cells #[.int .i64 0] 3)).alloc (.cells #[.slice none 0 0,.slice none 0 0,.slice (some ⟨w.heap.size+1,0,none⟩) 1 1] 26)) P a n cap i bs w.heap.size (w.heap.size+2) jw jw (.slice (some ⟨w.heap.size+1,0,none⟩) 1 1) [] [] [0]:=by
 have ka:=hU 0 0 w iw
 have kb:=hU 0 0 (w.alloc iw) (.cells #[.int .i64 0] 3)
 have kc:=hU 0 0 ((w.alloc iw).alloc (.cells #[.int .i64 0] 3)) (.cells #[.slice none 0 0,.slice none 0 0,.slice (some ⟨w.heap.size+1,0,none⟩) 1 1] 26)
 have h1:(w.alloc iw).heap.size=w.heap.size+1:=by simp
 have h2:((w.alloc iw).alloc (.cells #[.int .i64 0] 3)).heap.size=w.heap.size+2:=by simp
 have kw:=(ka.trans kb).trans kc
 have r3:=World.ownsRow_lit (base:=w.heap.size) (e:=3) (size:=1) (w.alloc iw) #[.int .i64 0] 1 (by omega) (by unfold maxLen;omega) rfl
 rw[h1] at r3
 have hb:=kj (S:=λ_=>False) ((w.alloc iw).alloc (.cells #[.int .i64 0] 3)) _ #[.slice none 0 0,.slice none 0 0,.slice (some ⟨w.heap.size+1,0,none⟩) 1 1] 26 (Kept.refl 0 0 _).chg (λc=>c)
 rw[h2] at hb
 refine⟨hR.keep0 kw,⟨World.ownsRow_nil _ _ _ _,World.ownsRow_nil _ _ _ _,iC r3 kc,?_,?_,?_,?_,kw.size⟩,⟨hb.2.2,hb.1 0,hb.1 1,hb.1 2,hb.2.1 0,hb.2.1 1,hb.2.1 2⟩,(i9 w).keep (kb.trans kc),hR.lt,⟨Nat.le_refl _,by omega,by omega⟩,?_,iI kw⟩
 ·intro b h;cases h
 ·intro b h;cases h
 ·intro b h;cases h
 ·intro v hv;cases hv
 ·rintro b (h|h|h)
  ·cases h
  ·cases h
  ·simp[Value.ownBlock] at h;omega
theorem Cc (hR:RdF w P a n cap i bs)(m sz:Nat)(hm:m<=3000):
  Calls Tryz.prog 69 #[.int .i64 (m:Int),.int .i64 (sz:Int)] w (DgF w P a n cap bs [] (mU sz m) [0] i):=by
 have HS0:Hid _:=vw hR
 clear hR
 go_enter Tryz.func69,Tryz.ntmps69
 go_wp2_with fail
 generalize ((w.alloc iw).alloc (.cells #[.int .i64 0] 3)).alloc (.cells #[.slice none 0 0,.slice none 0 0,.slice (some ⟨w.heap.size+1,0,none⟩) 1 1] 26)=W0 at HS0 ⊢
 go_loopw [6] (λt W=>∃k:Nat,k<=m/\t=.int .i64 (k:Int)/\Hid (Dw w W P a n cap i bs (mU sz k))) (λt _=>m-(intOf t).toNat)
 case atStart=>exact⟨0,Nat.zero_le _,rfl,⟨none,0,[],rfl,HS0.out⟩⟩
 case round=>
  obtain⟨k,hk,rfl,hD⟩:=hrel
  clear HS0
  obtain⟨a2,c2,vs,hsv,D⟩:=hD.out
  clear hD
  by_cases hlt:k<m
  ·have HVL:Hid (vs.length=k):=by show _=_;have h9:=congrArg List.length hsv;rw[List.length_map,lK] at h9;exact h9
   have hk3:(k:Int)%3=((k%3:Nat):Int):=by omega
   have hkb:k%3<3:=Nat.mod_lt _ (by omega)
   generalize k%3=r at hk3 hkb
   have D3:=D.keep (hU 0 0 wr (ij 1 (sz:Int) 0 0 0 (floatOfInt .f64 (r:Int))))
   have hr2:=D3.dg.r2
   have HD3:Hid _:=D3
   have HSV:Hid _:=hsv
   obtain⟨_,q0,q1,q2,_,_,_⟩:=D.bx
   clear D D3 hsv
   go_upto_region 4 with (first|(at_builtin;refine nl _ rfl _ _ rfl w.heap.size _ vs rfl hr2 wr.heap.size ⟨1,(sz:Int),0,0,0,floatOfInt .f64 (r:Int)⟩ rfl (by intro j u hu;have h6:=vI wr ⟨1,(sz:Int),0,0,0,floatOfInt .f64 (r:Int)⟩ 0 j u hu;exact h6) (by have:=HVL.out;omega) HD3.out.dg.sz ?_;intro g9 cap9 n9 w9 hn9 hown9 hc9 hat9;have hb9:=jC HD3.out.bx hc9 (λc=>(HD3.out.nr _ (.inr (.inl c))).2 rfl);have HD4:Hid _:=HD3.out.vals hc9 hown9 hn9 (hat9.imp id λe=>Nat.le_of_eq e.symm) (by intro u hu;rcases List.mem_append.1 hu with c|c;exact HD3.out.dg.k u c;simp only[List.mem_singleton] at c;subst c;exact qf _) (it w9 ⟨w.heap.size+2,1,none⟩ (.slice (some ⟨g9,0,none⟩) n9 cap9) (.inl ⟨Nat.le_refl _,Nat.lt_succ_self _⟩)) (tu hb9 _);replace hn9:Hid _:=hn9;obtain⟨_,z0,z1,z2,f0,f1,f2⟩:=hb9))
   go_wp2_with fail
   go_roundw
   case rel=>
    refine⟨k+1,by omega,by go_num,some ⟨g9,0,none⟩,cap9,vs++[⟨1,(sz:Int),0,0,0,floatOfInt .f64 (r:Int)⟩],by rw[List.map_append,HSV.out];rfl,?_⟩
    have h9:=HD4.out
    rw[hn9.out] at h9
    rw[hn9.out]
    exact h9
   case measure=>simp[intOf];omega
  ·have e3:k=m:=by omega
   rw[e3] at hsv
   have HFin:Hid _:=D.fin hsv
   obtain⟨_,q0,q1,q2,_,_,_⟩:=D.bx
   obtain⟨_,r0,r1,r2,f0,f1,f2⟩:=D.rs
   clear D hsv e3
   go_wp2_with fail
   obtain⟨t0,t1,t2⟩:=iy wr w.heap.size _ _ _ r0 r1 r2 (.slice none 0 0) (.slice a2 vs.length c2) (.slice (some ⟨w.heap.size+1,0,none⟩) 1 1)
   exact bodyPost_ret (v:=ip none 0 0 a2 vs.length c2 (some ⟨w.heap.size+1,0,none⟩) 1 1) (by simp[results,Tryz.results69,go_sem,t0,t1,t2]) rfl HFin.out
theorem uA:∀(vs:List Vl) (j q:Nat) (x:Value) (v':Vl),j<vs.length->q<6->v'.cells=(vs.getD j Vl.zero).cells.set q x->iN (vs.set j v')=(iN vs).set (j*6+q) x
 |u::r,0,q,x,v',_,hq,hv=>by
  have hu:u.cells.length=6:=rfl
  rw[List.set_cons_zero,iN,iN,Nat.zero_mul,Nat.zero_add,List.set_append_left _ _ (by rw[hu];exact hq)]
  exact congrArg (· ++iN r) hv
 |u::r,j+1,q,x,v',hj,hq,hv=>by
  have hu:u.cells.length=6:=rfl
  rw[List.set_cons_succ,iN,iN,List.set_append_right _ _ (by rw[hu];omega),hu,show(j+1)*6+q-6=j*6+q by omega,uA r j q x v' (by simpa using hj) hq hv]
theorem DG.setV (f:DG w B u1 (.slice (some ⟨g,0,none⟩) m c) u3 ins vs outs){v':Vl}(hj:j<vs.length)(hq:q<6)(hv:v'.cells=(vs.getD j Vl.zero).cells.set q x)(hk:v'.k<18446744073709551616):DG (w.setCell ⟨g,j*6+q,none⟩ x) B u1 (.slice (some ⟨g,0,none⟩) m c) u3 ins (vs.set j v') outs:=by
 have e:m=vs.length:=kq f.r2
 subst e
 have h2:=(f.r2.stored (j*6+q) x).1
 refine⟨ir f.r1 λh=>f.a12 _ h rfl,?_,ir f.r3 λh=>f.a23 _ rfl h,f.a12,f.a13,f.a23,λu hu=>?_,by simpa using f.sz⟩
 ·rw[List.length_set,uA vs j q x v' hj hq hv]
  exact h2
 ·rcases List.mem_or_eq_of_mem_set hu with c|c
  ·exact f.k u c
  ·rw[c];exact hk
theorem Dy.setG {W:World}{v1 v2 v3:Value}{ins':List Int}{outs':List Int}{S:Nat->Prop}(f:Dy w0 W P a n cap i bs R Q u1 u2 u3 ins vs outs)(c9:Chg S W W')(hS:∀b,S b->w0.heap.size<=b/\b≠R/\b≠Q)(hd:DG W' w0.heap.size v1 v2 v3 ins' vs' outs')(hn:∀b,v1.ownBlock=some b\/v2.ownBlock=some b\/v3.ownBlock=some b->b≠R/\b≠Q)(kk:Kept Q (Q+1) W' W2)(hb:RB W2 Q v1 v2 v3):Dy w0 W2 P a n cap i bs R Q v1 v2 v3 ins' vs' outs':=by
 have hp:=f.p0
 have hq:=f.rq
 have hr:=jC f.rs c9 (λc=>(hS _ c).2.1 rfl)
 have hrd:=pp f.rd c9 λb hb=>by have:=(hS b hb).1;omega
 have own:∀{u:Value} {xs:List Value} {m e s:Nat},W'.ownsRow w0.heap.size e s u m xs->(∀b,u.ownBlock=some b->b≠Q)->W2.ownsRow w0.heap.size e s u m xs:=λo h=>iR o kk λb hb=>by have:=h b hb;omega
 refine⟨hrd.keep kk (.inl (by omega)),⟨own hd.r1 λb hb=>(hn b (.inl hb)).2,own hd.r2 λb hb=>(hn b (.inr (.inl hb))).2,own hd.r3 λb hb=>(hn b (.inr (.inr hb))).2,hd.a12,hd.a13,hd.a23,hd.k,Nat.le_trans hd.sz kk.size⟩,hb,hr.kept kk (by omega),hp,hq,hn,⟨kk.os.trans (c9.os.trans f.k0.os),kk.tape.trans (c9.tape.trans f.k0.tape),kk.output.trans (c9.output.trans f.k0.output),Nat.le_trans f.k0.size (Nat.le_trans c9.size kk.size),λb hb hn=>?_⟩⟩
 have h1:=f.k0.size
 have h2:=c9.size
 rw[kk.block b (by omega) (by omega),c9.block b (by omega) (λq=>by have:=(hS b q).1;omega)]
 exact f.k0.block b hb hn
theorem Dy.outs_ {W:World}{x:Int}(f:Dy w0 W P a n cap i bs R Q u1 u2 u3 ins vs outs)(c9:Chg (λb=>u3.ownBlock=some b) W W')(ho:W'.ownsRow w0.heap.size 3 1 (.slice (some ⟨g,0,none⟩) m c) m ((outs++[x]).map (Value.int .i64)))(hm:m=(outs++[x]).length)(hg:u3.ownBlock=some g\/g=W.heap.size):RB W' Q u1 u2 u3/\Dy w0 (W'.setCell ⟨Q,2,none⟩ (.slice (some ⟨g,0,none⟩) m c)) P a n cap i bs R Q u1 u2 (.slice (some ⟨g,0,none⟩) m c) ins vs (outs++[x]):=by
 have hB:∀b,u3.ownBlock=some b->w0.heap.size<=b/\b≠R/\b≠Q:=λb hb=>⟨(ii f.dg.r3 hb).1,f.nr b (.inr (.inr hb))⟩
 have hb:=jC f.bx c9 (λc=>(hB _ c).2.2 rfl)
 refine⟨hb,f.setG c9 hB (f.dg.outs_ c9 ho hm (hg.imp id λe=>Nat.le_of_eq e.symm)) ?_ (it W' ⟨Q,2,none⟩ _ (.inl ⟨Nat.le_refl _,Nat.lt_succ_self _⟩)) (lp hb _).2⟩
 rintro b (h|h|h)
 ·exact f.nr b (.inl h)
 ·exact f.nr b (.inr (.inl h))
 ·have e:b=g:=by simpa[Value.ownBlock] using h.symm
  subst e
  rcases hg with c|c
  ·exact(hB _ c).2
  ·have:=f.rs.sz;have:=f.bx.sz;omega
theorem Dy.ins_ {W:World}{x:Int}(f:Dy w0 W P a n cap i bs R Q u1 u2 u3 ins vs outs)(c9:Chg (λb=>u1.ownBlock=some b) W W')(ho:W'.ownsRow w0.heap.size 3 1 (.slice (some ⟨g,0,none⟩) m c) m ((ins++[x]).map (Value.int .i64)))(hm:m=(ins++[x]).length)(hg:u1.ownBlock=some g\/g=W.heap.size):RB W' Q u1 u2 u3/\Dy w0 (W'.setCell ⟨Q,0,none⟩ (.slice (some ⟨g,0,none⟩) m c)) P a n cap i bs R Q (.slice (some ⟨g,0,none⟩) m c) u2 u3 (ins++[x]) vs outs:=by
 have hB:∀b,u1.ownBlock=some b->w0.heap.size<=b/\b≠R/\b≠Q:=λb hb=>⟨(ii f.dg.r1 hb).1,f.nr b (.inl hb)⟩
 have hb:=jC f.bx c9 (λc=>(hB _ c).2.2 rfl)
 refine⟨hb,f.setG c9 hB (f.dg.ins_ c9 ho hm (hg.imp id λe=>Nat.le_of_eq e.symm)) ?_ (it W' ⟨Q,0,none⟩ _ (.inl ⟨Nat.le_refl _,Nat.lt_succ_self _⟩)) (lp hb _).1⟩
 rintro b (h|h|h)
 ·have e:b=g:=by simpa[Value.ownBlock] using h.symm
  subst e
  rcases hg with c|c
  ·exact(hB _ c).2
  ·have:=f.rs.sz;have:=f.bx.sz;omega
 ·exact f.nr b (.inr (.inl h))
 ·exact f.nr b (.inr (.inr h))
theorem Dy.setV {W:World}(f:Dy w0 W P a n cap i bs R Q u1 (.slice (some ⟨g,0,none⟩) m c) u3 ins vs outs){v':Vl}(hj:j<vs.length)(hq:q<6)(hv:v'.cells=(vs.getD j Vl.zero).cells.set q x)(hk:v'.k<18446744073709551616):Dy w0 (W.setCell ⟨g,j*6+q,none⟩ x) P a n cap i bs R Q u1 (.slice (some ⟨g,0,none⟩) m c) u3 ins (vs.set j v') outs:=by
 have c9:=iH (S:=λb=>b=g) W g (j*6+q) x rfl
 have hg:w0.heap.size<=g/\g≠R/\g≠Q:=⟨(ii f.dg.r2 rfl).1,f.nr g (.inr (.inl rfl))⟩
 exact f.setG c9 (λb hb=>by subst hb;exact hg) (f.dg.setV hj hq hv hk) f.nr (Kept.refl _ _ _) (jC f.bx c9 λc=>hg.2.2 c.symm)
theorem Dy.box (f:DG w w0.heap.size u1 u2 u3 ins vs outs)(hR:RdF w P a n cap i bs)(hP:P<w0.heap.size)(k:Kept P (P+1) w0 w):
  Dy w0 ((w.alloc (.cells #[u1,u2,u3] 26)).alloc iw) P a n cap i bs (w.heap.size+1) w.heap.size u1 u2 u3 ins vs outs:=by
 obtain⟨S,k1⟩:=GrS.start f hR hP
 refine⟨S.rd,S.dg,S.bx,S.rs,hP,⟨by have:=f.sz;omega,f.sz,by omega⟩,λb hb=>?_,k.trans (iI k1)⟩
 have:=S.far b hb
 omega
def mX (m x:Nat):Int:=if x=7 then -1 else if x=8 then (m:Int) else if m=0 then 0 else ((x%m:Nat):Int)
theorem Fe (hR:RdF w P a n cap i bs)(m:Nat)(hm:m<=100000):
  Calls Tryz.prog 41 #[.int .i64 (m:Int),.pointer (some ⟨P,0,none⟩)] w λe w'=>e=.returned (.int .i64 (mX m (nv bs i)))/\RdF w' P a n cap (ni bs i) bs/\Kept P (P+1) w w':=by
 have hx:=iK hR.ys i
 have HN:Hid _:=lj w P a n cap i bs hR
 have HX:Hid (mX m (nv bs i)=if nv bs i=7 then -1 else if nv bs i=8 then (m:Int) else if m=0 then 0 else ((nv bs i%m:Nat):Int)):=rfl
 generalize mX m (nv bs i)=r at HX ⊢
 generalize nv bs i=x at HX hx HN
 clear hR
 go_enter Tryz.func41,Tryz.ntmps41
 go_wp2_with fail
 refine Calls.mono HN.out ?_
 rintro e w2 ⟨rfl,hR2,k2,hz2⟩
 have HF:Hid _:=And.intro hR2 k2
 clear hR2 k2 hz2 HN
 by_cases h7:x=7
 ·have HR:Hid (r=-1):=HX.out.trans (if_pos h7)
  subst h7
  go_wp2
  go_ret
  exact⟨by rw[HR.out];rfl,HF.out⟩
 by_cases h8:x=8
 ·have HR:Hid (r=(m:Int)):=HX.out.trans ((if_neg h7).trans (if_pos h8))
  subst h8
  go_wp2
  go_ret
  exact⟨by rw[HR.out];rfl,HF.out⟩
 by_cases h0:m=0
 ·have HR:Hid (r=0):=HX.out.trans ((if_neg h7).trans ((if_neg h8).trans (if_pos h0)))
  subst h0
  clear HX
  go_wp2
  go_ret
  exact⟨by rw[HR.out];rfl,HF.out⟩
 ·have HR:Hid (r=((x%m:Nat):Int)):=HX.out.trans ((if_neg h7).trans ((if_neg h8).trans (if_neg h0)))
  have ht:(x:Int).tmod (m:Int)=((x%m:Nat):Int):=rfl
  have HT:Hid _:=ht
  have ht2:(x:Int)%(m:Int)=((x%m:Nat):Int):=by rw[Int.natCast_emod]
  have HT2:Hid _:=ht2
  clear HX ht ht2
  go_wp2
  go_ret
  exact⟨by rw[HR.out];first|rfl|(rw[<-HT2.out];rfl),HF.out⟩
def scG (vs:List Vl):Nat->Nat->Option Nat
 |0,_=>none
 |k+1,s=>if (vs.getD k Vl.zero).len=1 then (if s=0 then some k else scG vs k (s-1)) else scG vs k s
def scM (vs:List Vl)(bs:List Int)(i:Nat):Int×Nat:=
 match (if 0<nv bs i%8 then scG vs vs.length (nv bs i/8%3) else none) with
 |some k=>((k:Int),ni bs i)
 |none=>(mX vs.length (nv bs (ni bs i)),ni bs (ni bs i))
theorem Ff {n2:Nat}(h2:w.ownsRow B 31 6 (.slice a2 n2 c2) n2 (iN vs))(hl:vs.length=n2)(hn:n2<=100000)(hR:RdF w P a n cap i bs)(hP:P<B):
  Calls Tryz.prog 40 #[ip a1 n1 c1 a2 n2 c2 a3 n3 c3,.pointer (some ⟨P,0,none⟩)] w λe w'=>e=.returned (.int .i64 (scM vs bs i).1)/\RdF w' P a n cap (scM vs bs i).2 bs/\Kept P (P+1) w w':=by
 have k0:=hU 0 0 w (iv a1 n1 c1 a2 n2 c2 a3 n3 c3)
 have hx:=iK hR.ys i
 have HB:Hid _:=iO w (.slice a1 n1 c1) (.slice a2 n2 c2) (.slice a3 n3 c3)
 have HN:Hid _:=lj _ P a n cap i bs (hR.keep0 k0)
 have HO:Hid _:=iC h2 k0
 have HM:Hid (∀r,(if 0<nv bs i%8 then scG vs n2 (nv bs i/8%3) else none)=r->scM vs bs i=match r with|some k=>((k:Int),ni bs i)|none=>(mX n2 (nv bs (ni bs i)),ni bs (ni bs i))):=λr e=>by
  unfold scM
  rw[hl,e]
 have HPs:Hid (P≠w.heap.size):=by have:=hR.lt;show P≠_;omega
 have HK:Hid _:=k0
 generalize scM vs bs i=R at HM ⊢
 generalize nv bs i=x at HN HM hx
 have HL:Hid (vs.length=n2):=hl
 clear k0 h2 hR hl
 go_enter Tryz.func40,Tryz.ntmps40
 go_wp2_with fail
 refine Calls.mono HN.out ?_
 rintro e w2 ⟨rfl,hR2,k2,hsz⟩
 clear hsz
 have HR2:Hid _:=hR2
 have HK2:Hid (Kept P (P+1) w w2):=(iI HK.out).trans k2
 have HO2:Hid _:=iR HO.out k2 λ_ e=>.inr (by have:=(ii HO.out e).1;omega)
 have q1:w2.cell? ⟨w.heap.size,1,none⟩=some (.slice a2 n2 c2):=by
  rw[k2.cell (p:=⟨w.heap.size,1,none⟩) (by simp) (by show ¬(P<=w.heap.size/\w.heap.size<P+1);have:=HPs.out;omega)]
  obtain⟨_,_,z1,_⟩:=HB.out
  exact z1
 have HI:Hid _:=Fe hR2 n2 hn
 have HNo:Hid (R=(mX n2 (nv bs (ni bs i)),ni bs (ni bs i))->∀w3,RdF w3 P a n cap (ni bs (ni bs i)) bs/\Kept P (P+1) w2 w3->Ending.returned (.int .i64 (mX n2 (nv bs (ni bs i))))=.returned (.int .i64 R.1)/\RdF w3 P a n cap R.2 bs/\Kept P (P+1) w w3):=λe w3 h=>by rw[e];exact⟨rfl,h.1,HK2.out.trans h.2⟩
 have HYs:Hid (∀k:Nat,R=((k:Int),ni bs i)->Ending.returned (.int .i64 (k:Int))=.returned (.int .i64 R.1)/\RdF w2 P a n cap R.2 bs/\Kept P (P+1) w w2):=λk e=>by rw[e];exact⟨rfl,HR2.out,HK2.out⟩
 clear hR2 k2 HK HO HN HB HR2 HK2
 by_cases h8:0<x%8
 ·have h8':0<(x:Int)%8:=by omega
  have hs3:(x:Int)/8%3=((x/8%3:Nat):Int):=by omega
  have hs2:x/8%3<=2:=by omega
  have HM2:Hid (∀r,scG vs n2 (x/8%3)=r->R=match r with|some k=>((k:Int),ni bs i)|none=>(mX n2 (nv bs (ni bs i)),ni bs (ni bs i))):=λr e=>HM.out r (by rw[if_pos h8];exact e)
  clear HM
  generalize x/8%3=s at hs3 hs2 HM2
  go_wp2_with fail
  try rw[hs3]
  clear hs3
  go_loopw [6,7] (λt6 t7 W=>∃k s':Nat,k<=n2/\s'<=2/\t6=.int .i64 (s':Int)/\t7=.int .i64 ((k:Int)-1)/\Hid (scG vs n2 s=scG vs k s')/\W=w2) (λ_ t7 _=>(intOf t7+1).toNat)
  case atStart=>exact⟨n2,s,Nat.le_refl _,hs2,rfl,rfl,rfl,rfl⟩
  case round=>
   obtain⟨k,s',hk,hs',rfl,rfl,hS,rfl⟩:=hrel
   rcases Nat.eq_zero_or_pos k with hz|hz
   ·have HRn:Hid (R=(mX n2 (nv bs (ni bs i)),ni bs (ni bs i))):=HM2.out none (by rw[hS.out,hz];rfl)
    have hz':(k:Int)<=0:=by omega
    clear hz
    go_wp2_with (first|(go_at_call 41;refine Calls.mono HI.out ?_;rintro e w3 ⟨rfl,h3⟩))
    go_ret
    exact HNo.out HRn.out w3 h3
   ·obtain⟨j,rfl⟩:∃j,k=j+1:=⟨k-1,by omega⟩
    obtain⟨g,cp,eu,hg1,hg2,hat⟩:=iY HO2.out HL.out (k:=j) (by omega)
    cases eu
    have y1:=hat.c1
    have hj:((j+1:Nat):Int)-1=(j:Int):=by omega
    rw[hj]
    have hS':Hid (scG vs n2 s=if (vs.getD j Vl.zero).len=1 then (if s'=0 then some j else scG vs j (s'-1)) else scG vs j s'):=hS
    clear hS hat hj
    generalize (vs.getD j Vl.zero).len=z at y1 hS'
    by_cases hz1:z=1
    ·subst hz1
     replace hS':Hid _:=hS'.out.trans (if_pos rfl)
     rcases Nat.eq_zero_or_pos s' with h0|h0
     ·have HRs:Hid (R=((j:Int),ni bs i)):=HM2.out (some j) (by rw[hS'.out,if_pos h0])
      have h0':(s':Int)<=0:=by omega
      clear h0
      go_wp2_with fail
      go_ret
      exact HYs.out j HRs.out
     ·have HS2:Hid (scG vs n2 s=scG vs j (s'-1)):=hS'.out.trans (if_neg (by omega))
      go_wp2_with fail
      go_roundw
      case rel=>exact⟨j,s'-1,by omega,by omega,by go_num,by go_num,HS2.out,trivial⟩
      case measure=>simp[intOf]
    ·replace hS':Hid _:=hS'.out.trans (if_neg hz1)
     go_wp2_with fail
     go_roundw
     case rel=>exact⟨j,s',by omega,by omega,by go_num,by go_num,hS'.out,trivial⟩
     case measure=>simp[intOf]
 ·have h8':¬0<(x:Int)%8:=by omega
  have HRn:Hid (R=(mX n2 (nv bs (ni bs i)),ni bs (ni bs i))):=HM.out none (by rw[if_neg h8])
  clear HM
  go_wp2_with (first|(go_at_call 41;refine Calls.mono HI.out ?_;rintro e w3 ⟨rfl,h3⟩))
  go_ret
  exact HNo.out HRn.out w3 h3
end Go.Proofs.YtnlffngpnoodkaaGreat
