import Derived.Test.YtdpbpcnldpkljaaGreatP34
namespace Go.Proofs.Z
open Tryz
set_option maxRecDepth 1000000
set_option maxHeartbeats 0
open Go.RowKit Flt
attribute [local go_sem] eD eB eA
variable {w0 w W' W2:World} {ops:Array Oper} {B P n cap i j R Q k c1 m q g c2 n1 c c3 n3:Nat} {a a1 a2 a3:Option Addr} {bs ins outs:List Int} {u1 u2 u3 x:Value} {vs S vs':List Vl}
def hY (bs:List Int)(p:Nat):Nat->List Int×List Vl×Nat
 |0=>([],[],p)
 |k+1=>((hY bs p k).1++[((1+nv bs (hY bs p k).2.2%4:Nat):Int)],(hY bs p k).2.1++[⟨0,((1+nv bs (hY bs p k).2.2%4:Nat):Int),(k:Int),0,0,0⟩],ni bs (hY bs p k).2.2)
def gwL (bs:List Int)(ins:List Int)(m:Nat):Nat->Nat->List Vl->Nat->List Vl×Nat
 |0,_,S,p=>(S,p)
 |f+1,k,S,p=>if k<m/\(k<3\/p<bs.length) then gwL bs ins m f (k+1) (S++[(gwM ins S bs p).1]) (gwM ins S bs p).2 else (S,p)
def ug (len v:Nat):Int:=if 0<v%3 then (if (len:Int)-1-((v/3%3:Nat):Int)<0 then 0 else (len:Int)-1-((v/3%3:Nat):Int)) else ((v%len:Nat):Int)
def mf (bs:List Int)(len p:Nat):Nat->List Int×Nat
 |0=>([],p)
 |k+1=>((mf bs len p k).1++[ug len (nv bs (mf bs len p k).2)],ni bs (mf bs len p k).2)
def Dd (w W:World)(P:Nat)(a:Option Addr)(n cap:Nat)(bs:List Int)(ins:List Int)(S:List Vl)(outs:List Int)(i:Nat):Prop:=
 ∃a1 c1 a2 c2 a3 c3 vs,vs.map sv=S/\Dx w W P a n cap i bs (.slice a1 ins.length c1) (.slice a2 vs.length c2) (.slice a3 outs.length c3) ins vs outs
def dgI (bs:List Int)(i:Nat):List Int×List Vl×Nat:=hY bs (ni bs i) (nv bs i%4)
def dgG (bs:List Int)(i:Nat):List Vl×Nat:=gwL bs (dgI bs i).1 (2+nv bs (dgI bs i).2.2%24) (2+nv bs (dgI bs i).2.2%24) 0 (dgI bs i).2.1 (ni bs (dgI bs i).2.2)
def dgO (bs:List Int)(i:Nat):List Int×Nat:=mf bs (dgG bs i).1.length (ni bs (dgG bs i).2) (nv bs (dgG bs i).2%5)
def DgF (w:World)(P:Nat)(a:Option Addr)(n cap:Nat)(bs:List Int)(ins:List Int)(S:List Vl)(outs:List Int)(i:Nat)(e:Ending)(w':World):Prop:=
 ∃a1 c1 a2 c2 a3 c3 vs,e=.returned (eR a1 ins.length c1 a2 vs.length c2 a3 outs.length c3)/\vs.map sv=S/\DG w' w.heap.size (.slice a1 ins.length c1) (.slice a2 vs.length c2) (.slice a3 outs.length c3) ins vs outs/\RdF w' P a n cap i bs/\Kept P (P+1) w w'
def LenS (S:List Vl):Prop:=∀k,k<S.length->1<=(vd S k).len/\(vd S k).len<=1000
theorem LenS.snoc {v:Vl}(h:LenS S)(hv:1<=v.len/\v.len<=1000):LenS (S++[v]):=λk hk=>by
 rw[yak] at hk
 by_cases c:k<S.length
 ·rw[F7 c];exact h k c
 ·have:k=S.length+0:=by simp at hk;omega
  rw[this,F8];exact hv
theorem LenS.of (h:LenS S)(e:vs.map sv=S):∀k,k<vs.length->1<=(vd vs k).len/\(vd vs k).len<=1000:=λk hk=>by
 rw[<-wD,e]
 exact h k (by rw[<-e,List.length_map];exact hk)
theorem nf (bs:List Int)(p:Nat):∀k,(hY bs p k).1.length=k/\(hY bs p k).2.1.length=k
 |0=>⟨rfl,rfl⟩
 |k+1=>by
  obtain⟨h1,h2⟩:=nf bs p k
  exact⟨by rw[hY,yak,h1];rfl,by rw[hY,yak,h2];rfl⟩
theorem nU (bs:List Int)(p:Nat):∀k,LenS (hY bs p k).2.1/\∀j,j<(hY bs p k).1.length->1<=(hY bs p k).1.getD j 0/\(hY bs p k).1.getD j 0<=1000
 |0=>⟨λk hk=>(by cases hk),λk hk=>(by cases hk)⟩
 |k+1=>by
  obtain⟨h1,h2⟩:=nU bs p k
  rw[hY]
  refine⟨h1.snoc (by simp only;omega),λj hj=>?_⟩
  simp only at hj ⊢
  rw[yak] at hj
  by_cases c:j<(hY bs p k).1.length
  ·rw[yah,yas c,<-yah]
   exact h2 j c
  ·have e:j=(hY bs p k).1.length:=by simp at hj;omega
   rw[yah,yar xaa,e,Nat.sub_self]
   show 1<=((1+nv bs (hY bs p k).2.2%4:Nat):Int)/\((1+nv bs (hY bs p k).2.2%4:Nat):Int)<=1000
   omega
theorem Dd.of {W:World}{v s:Vl}(h:Dx w W P a n cap i bs (.slice a1 m c1) (.slice a2 (vs.length+1) c2) (.slice a3 n3 c3) ins (vs++[v]) outs)(hs:vs.map sv=S)(hv:sv v=s):Dd w W P a n cap bs ins (S++[s]) outs i:=by
 have e1:m=ins.length:=iX h.dg.r1
 have e3:n3=outs.length:=iX h.dg.r3
 subst e1 e3
 refine⟨a1,c1,a2,c2,a3,c3,vs++[v],by rw[List.map_append,hs,List.map_cons,List.map_nil,hv],?_⟩
 rw[yak]
 exact h
theorem sG (w:World){o:Oper}{a:Act}{K:Act->World->Prop}{Q:Exit->Act->World->Prop}{E:Prop}(hgd:o.guard=none)(s x:Operand)
  (ho:o.op=.call {callee:=.builtin .append,args:=#[s,x],argTypes:=#[23,23]})
  (B:Nat) (v:Value) (js:List Int) (hs:a.eval s=v) (hown:w.ownsRow B 3 1 v js.length (js.map (Value.int .i64)))
  (ad:Addr) (y:Int) (hx:a.eval x=.slice (some ad) 1 1) (hnews:w.cell? ad=some (.int .i64 y))
  (h63:js.length+1<=1000000) (hbase:B<=w.heap.size)
  (h:∀g cap n w',n=(js++[y]).length->w'.ownsRow B 3 1 (.slice (some ⟨g,0,none⟩) n cap) n ((js++[y]).map (Value.int .i64))->Chg (λb=>v.ownBlock=some b) w w'->(v.ownBlock=some g\/g=w.heap.size)->K (a.put o.dst (.slice (some ⟨g,0,none⟩) n cap)) w'):if Region.wanted o (yielded ops a.tmps)=true then Oper.wp prog o a w K Q else E:=by
 obtain⟨i0,hi,hz0,hz1,hz2⟩:=info_parts oi
 refine step_append_lies w hgd s x 23 ho B 3 i0 (.int .i64 0) 1 8 underlying23 hi hz0 hz1 hz2 rfl xab v js.length _ hs hown ad 1 1 [.int .i64 y] hx rfl ?_ ?_ xab (by unfold maxLen;omega) xaa hbase _ rfl ?_
 ·exact xef
 ·intro u hu;simp at hu;subst hu;rfl
 ·exact xds
theorem DG.setO (f:DG w B u1 u2 (.slice (some ⟨g,0,none⟩) m c) ins vs outs)(x:Int):DG (w.setCell ⟨g,k,none⟩ (.int .i64 x)) B u1 u2 (.slice (some ⟨g,0,none⟩) m c) ins vs (outs.set k x):=by
 have e:m=outs.length:=iX f.r3
 subst e
 have h3:=f.r3.stored k (.int .i64 x)
 refine⟨eH f.r1 λh=>f.a13 _ h rfl,eH f.r2 λh=>f.a23 _ h rfl,?_,f.a12,f.a13,f.a23,f.k,by simpa using f.sz⟩
 rw[List.length_set,List.map_set]
 exact h3.1
theorem Dx.setO {W:World}(f:Dx w0 W P a n cap i bs u1 u2 (.slice (some ⟨g,0,none⟩) m c) ins vs outs)(x:Int):Dx w0 (W.setCell ⟨g,k,none⟩ (.int .i64 x)) P a n cap i bs u1 u2 (.slice (some ⟨g,0,none⟩) m c) ins vs (outs.set k x):=by
 have hg:w0.heap.size+2<=g:=(eG f.dg.r3 rfl).1
 have hp:=f.p0
 have kk:Kept g (g+1) W (W.setCell ⟨g,k,none⟩ (.int .i64 x)):=eL W ⟨g,k,none⟩ _ yac
 have h1:=f.k0.size
 refine⟨f.rd.keep kk (.inl xaa),f.dg.setO x,f.bx.kept kk xaa,f.rs.kept kk xaa,hp,⟨kk.os.trans f.k0.os,kk.tape.trans f.k0.tape,kk.output.trans f.k0.output,yan h1 kk.size,λb hb hn=>?_⟩⟩
 rw[kk.block b xaa xaa]
 exact f.k0.block b hb hn
theorem AU {xs:List Int}{y z:Int}:(xs++[y]).set xs.length z=xs++[z]:=by
 rw[List.set_append,if_neg (Nat.lt_irrefl _),Nat.sub_self];rfl
theorem Dd.ofO {W:World}(h:Dx w W P a n cap i bs (.slice a1 m c1) (.slice a2 vs.length c2) (.slice a3 n3 c3) ins vs outs)(hs:vs.map sv=S):Dd w W P a n cap bs ins S outs i:=by
 have e1:m=ins.length:=iX h.dg.r1
 have e3:n3=outs.length:=iX h.dg.r3
 subst e1 e3
 exact⟨a1,c1,a2,c2,a3,c3,vs,hs,h⟩
theorem pR (bs:List Int)(l p:Nat):∀k,(mf bs l p k).1.length=k
 |0=>rfl
 |k+1=>by rw[mf,yak,pR bs l p k];rfl
theorem DG.mono {B':Nat}(f:DG w B u1 u2 u3 ins vs outs)(h:B'<=B):DG w B' u1 u2 u3 ins vs outs:=
 ⟨iq f.r1 h,iq f.r2 h,iq f.r3 h,f.a12,f.a13,f.a23,f.k,yan h f.sz⟩
theorem Dx.fin {W:World}(f:Dx w0 W P a n cap i bs (.slice a1 ins.length c1) (.slice a2 vs.length c2) (.slice a3 outs.length c3) ins vs outs)(hs:vs.map sv=S):
  DgF w0 P a n cap bs ins S outs i (.returned (eR a1 ins.length c1 a2 vs.length c2 a3 outs.length c3)) (fe W w0.heap.size (.slice a1 ins.length c1) (.slice a2 vs.length c2) (.slice a3 outs.length c3)):=by
 have kk:=fc W w0.heap.size (.slice a1 ins.length c1) (.slice a2 vs.length c2) (.slice a3 outs.length c3)
 have hp:=f.p0
 have h1:=f.k0.size
 refine⟨a1,c1,a2,c2,a3,c3,vs,rfl,hs,(f.dg.kept kk xaa).mono xaa,f.rd.keep kk (.inl xaa),⟨kk.os.trans f.k0.os,kk.tape.trans f.k0.tape,kk.output.trans f.k0.output,yan h1 kk.size,λb hb hn=>?_⟩⟩
 exact xji
theorem AV (hR:RdF w P a n cap i bs):
  Calls prog 23 #[.pointer (some ⟨P,0,none⟩)] w (DgF w P a n cap bs (dgI bs i).1 (dgG bs i).1 (dgO bs i).1 (dgO bs i).2):=by
 have HS0:Hid _:=Dx.start hR
 have hx0:=fw hR.ys i
 have HY:Hid (∀j,nv bs j<256):=λj=>fw hR.ys j
 clear hR
 go_enter func23,ntmps23
 go_wp2_with fail
 generalize (w.alloc eZ).alloc eZ=W0 at HS0 ⊢
 refine yai HS0.out.next ?_
 rintro e W1 ⟨rfl,D1⟩
 have HD:Hid (Dd w W1 P a n cap bs (hY bs (ni bs i) 0).1 (hY bs (ni bs i) 0).2.1 [] (hY bs (ni bs i) 0).2.2):=⟨none,0,none,0,none,0,[],rfl,D1⟩
 have hnn:(nv bs i:Int)%4=((nv bs i%4:Nat):Int):=xaa
 have hn3:nv bs i%4<4:=Nat.mod_lt _ xaa
 generalize hNN:nv bs i%4=nn at hnn hn3
 have HNN:Hid (nn=nv bs i%4):=hNN.symm
 clear hNN
 clear D1 HS0
 go_wp2_with fail
 rw[hnn]
 clear hnn hx0
 go_loopw [5] (λt W=>∃k:Nat,k<=nn/\t=.int .i64 (k:Int)/\Hid (Dd w W P a n cap bs (hY bs (ni bs i) k).1 (hY bs (ni bs i) k).2.1 [] (hY bs (ni bs i) k).2.2)) (λt _=>nn-(intOf t).toNat)
 case atStart=>exact⟨0,Nat.zero_le _,rfl,HD.out⟩
 case round=>
  obtain⟨k,hk,rfl,hD⟩:=hrel
  obtain⟨a1,c1,a2,c2,a3,c3,vs,hsv,D⟩:=hD.out
  rw[List.length_nil] at D
  clear HD
  by_cases hlt:k<nn
  ·have HD:Hid _:=D
   go_wp2_with fail
   refine yai HD.out.next ?_
   rintro e W2 ⟨rfl,D2⟩
   have hxk:=HY.out (hY bs (ni bs i) k).2.2
   have hx4:(1:Int)+(nv bs (hY bs (ni bs i) k).2.2:Int)%4=((1+nv bs (hY bs (ni bs i) k).2.2%4:Nat):Int):=xaa
   have HSV:Hid _:=hsv
   have HI:Hid _:=nf bs (ni bs i) k
   have HN:Hid (hY bs (ni bs i) (k+1)=((hY bs (ni bs i) k).1++[((1+nv bs (hY bs (ni bs i) k).2.2%4:Nat):Int)],(hY bs (ni bs i) k).2.1++[⟨0,((1+nv bs (hY bs (ni bs i) k).2.2%4:Nat):Int),(k:Int),0,0,0⟩],ni bs (hY bs (ni bs i) k).2.2)):=rfl
   replace HD:Hid _:=D2
   clear D D2 hsv hD
   generalize hY bs (ni bs i) k=J at HD HN HI HSV hx4 hxk ⊢
   generalize 1+nv bs J.2.2%4=d at hx4 HN
   generalize hL1:J.1.length=l1 at HD
   have hl1:l1=k:=by rw[<-hL1];exact HI.out.1
   have HL1:Hid _:=hL1
   clear hL1
   subst hl1
   have D3:=HD.out.keep (ez 0 0 W2 (.cells #[.int .i64 (d:Int)] 3))
   have hr3:=D3.dg.r1
   have HD3:Hid _:=D3
   have q0:=HD.out.bx.q0
   clear D3
   go_wp2_with (first|(at_builtin;refine fk _ rfl _ _ rfl (w.heap.size+2) _ J.1 rfl hr3 ⟨W2.heap.size,0,none⟩ (d:Int) rfl xac (by have:=HI.out.1;omega) HD3.out.dg.sz ?_;intro g9 cap9 n9 w9 hn9 hown9 hc9 hat9;have hb9:=iO HD3.out.bx hc9 (λc=>by have:=(eG HD3.out.dg.r1 c).1;omega);have HD4:Hid _:=HD3.out.ins_ hc9 hown9 hn9 hat9;replace hn9:Hid _:=hn9;obtain⟨_,z0,z1,z2,f0,f1,f2⟩:=hb9))
   generalize w9.setCell ⟨w.heap.size+1,0,none⟩ (.slice (some ⟨g9,0,none⟩) n9 cap9)=W4 at HD4 ⊢
   clear hown9 hc9 hat9 z0 z1 z2 f0 f1 f2 q0 hr3 HD3 HD
   have HF:Hid (∀W5,Kept 0 0 W4 W5->_):=λW5 k5=>HD4.out.put k5 (eI 0 (d:Int) (l1:Int) 0 0) (Nat.zero_lt_succ _) (by have:=HI.out.2;have h9:=congrArg List.length HSV.out;rw[List.length_map] at h9;omega)
   obtain⟨_,z0,z1,z2,f0,f1,f2⟩:=HD4.out.bx
   go_region_with (first
    |(go_at_call 24;refine yai (HF.out _ ((eC _).trans k5)) ?_;rintro e W9 ⟨g',cap',rfl,hrb,hfin⟩;obtain⟨_,r0,r1,r2,rf0,rf1,rf2⟩:=hrb)
    |(go_at_call 26;refine yai (gj _ _ _ _ _ _) ?_;rintro e W5 ⟨rfl,k5⟩;obtain⟨_,s0,s1,s2,_,_,_⟩:=(HD4.out.keep ((eC _).trans k5)).bx))
   all_goals
    go_wp2_with fail
    go_roundw
    case rel=>
     exact⟨l1+1,by omega,by go_num,by rw[HN.out];exact Dd.of hfin HSV.out rfl⟩
    case measure=>simp[intOf];omega
  ·have HE:Hid (Dd w wr P a n cap bs (hY bs (ni bs i) nn).1 (hY bs (ni bs i) nn).2.1 [] (hY bs (ni bs i) nn).2.2):=by
    have e:k=nn:=xaa
    rw[<-e]
    exact hD.out
   have HLi:Hid _:=nf bs (ni bs i) nn
   clear D hsv hD
   have HG:Hid (gwL bs (hY bs (ni bs i) nn).1 (2+nv bs (hY bs (ni bs i) nn).2.2%24) (2+nv bs (hY bs (ni bs i) nn).2.2%24-0) 0 (hY bs (ni bs i) nn).2.1 (ni bs (hY bs (ni bs i) nn).2.2)=dgG bs i):=by rw[HNN.out];rfl
   have HLn:Hid _:=nU bs (ni bs i) nn
   have HGS0:Hid _:=(rfl:dgG bs i=dgG bs i)
   generalize hGG:dgG bs i=G at HG ⊢
   replace HGS0:Hid (dgG bs i=G):=hGG
   clear hGG
   have HJ0:Hid (dgI bs i=hY bs (ni bs i) nn):=by show dgI bs i=_;rw[HNN.out];rfl
   generalize hY bs (ni bs i) nn=J at HE HLi HG HLn HJ0 ⊢
   obtain⟨a1,c1,a2,c2,a3,c3,vs,hsv,D⟩:=HE.out
   have HD:Hid _:=D
   have HSV:Hid _:=hsv
   clear D hsv HE
   go_wp2_with fail
   refine yai HD.out.next ?_
   rintro e W2 ⟨rfl,D2⟩
   have hx:=HY.out J.2.2
   have hm24:(2:Int)+(nv bs J.2.2:Int)%24=((2+nv bs J.2.2%24:Nat):Int):=xaa
   have hm25:2+nv bs J.2.2%24<=25:=xaa
   have hm2:2<=2+nv bs J.2.2%24:=xaa
   generalize 2+nv bs J.2.2%24=m at hm24 hm25 hm2 HG
   have HE2:Hid (Dd w W2 P a n cap bs J.1 J.2.1 [] (ni bs J.2.2)):=⟨a1,c1,a2,c2,a3,c3,vs,HSV.out,D2⟩
   clear D2 HD HSV
   go_wp2_with fail
   try rw[hm24]
   clear hm24
   go_loopw [8] (λt W=>∃(k:Nat) (S:List Vl) (p:Nat),k<=m/\t=.int .i64 (k:Int)/\Hid (Dd w W P a n cap bs J.1 S [] p)/\Hid (LenS S)/\Hid (S.length=nn+k)/\Hid (gwL bs J.1 m (m-k) k S p=G)) (λt _=>m-(intOf t).toNat)
   case atStart=>exact⟨0,J.2.1,_,Nat.zero_le _,rfl,HE2.out,HLn.out.1,by rw[HLi.out.2];rfl,HG.out⟩
   case round=>
    obtain⟨k2,S,p,hk2,rfl,hD2,hLS,hSl,hG2⟩:=hrel
    obtain⟨a1,c1,a2,c2,a3,c3,vs,hsv,D⟩:=hD2.out
    clear HE2 HG
    have HLen:Hid _:=hLS.out.of hsv
    have hvl:vs.length=S.length:=by rw[<-hsv,List.length_map]
    have hv0:vs.length<=100000:=by have:=hSl.out;omega
    have HG0:Hid (∀v g' cap' W9,sv v=(gwM J.1 vs bs p).1->Dx w W9 P a n cap (gwM J.1 vs bs p).2 bs (.slice a1 J.1.length c1) (.slice (some ⟨g',0,none⟩) (vs.length+1) cap') (.slice a3 0 c3) J.1 (vs++[v]) []->k2<m->(k2<3\/p<bs.length)->∃(S':List Vl) (p':Nat),Dd w W9 P a n cap bs J.1 S' [] p'/\LenS S'/\S'.length=nn+(k2+1)/\gwL bs J.1 m (m-(k2+1)) (k2+1) S' p'=G):=λv g' cap' W9 h1 h2 h3 h4=>by
     have eg:gwM J.1 vs bs p=gwM J.1 S bs p:=by rw[<-AO,hsv]
     rw[eg] at h1 h2
     refine⟨S++[(gwM J.1 S bs p).1],(gwM J.1 S bs p).2,Dd.of h2 hsv h1,hLS.out.snoc (sD HLn.out.2 hLS.out),by rw[yak,hSl.out];rfl,?_⟩
     have:=hG2.out
     rw[show m-k2=(m-(k2+1))+1 by omega,gwL,if_pos ⟨h3,h4⟩] at this
     exact this
    have HGx:Hid (¬(k2<m/\(k2<3\/p<bs.length))->G=(S,p)):=λc=>by
     have:=hG2.out
     cases hm:m-k2 with
     |zero=>rw[hm,gwL] at this;exact this.symm
     |succ x=>rw[hm,gwL,if_neg c] at this;exact this.symm
    rw[List.length_nil] at D
    have HD:Hid _:=D
    have HSV:Hid _:=hsv
    have HGr:Hid (∀W',Kept 0 0 wr W'->_):=λW' kk=>(HD.out.keep kk).grow hv0 HLen.out
    have HLf:Hid _:=wm D.rd
    clear D hsv hG2 hLS hvl hD2
    by_cases hc:k2<m/\(k2<3\/p<bs.length)
    ·have hlt:=hc.1
     have HC:Hid _:=hc.2
     clear hc HGx
     by_cases h3:k2<3
     ·obtain⟨_,z0,z1,z2,f0,f1,f2⟩:=HD.out.bx
      go_wp2_with (first|(go_at_call 28;refine yai (HGr.out _ (Kept.refl 0 0 _)) ?_;rintro e W9 ⟨v,g',cap',rfl,hsv9,hrb,hfin⟩;obtain⟨_,r0,r1,r2,rf0,rf1,rf2⟩:=hrb))
      exact xfx
     ·have hpl:(p:Int)<(bs.length:Int):=by have:=HC.out;omega
      have hps:=HD.out.rd.small
      have hpn:(bs.length:Int)<=500:=by have:=HD.out.rd.ys.len;omega
      clear hps
      go_wp2_with (first
       |(go_at_call 25;refine yai HLf.out ?_;rintro e W7 ⟨rfl,k7⟩;obtain⟨_,z0,z1,z2,f0,f1,f2⟩:=(HD.out.keep k7).bx)
       |(go_at_call 28;refine yai (HGr.out _ k7) ?_;rintro e W9 ⟨v,g',cap',rfl,hsv9,hrb,hfin⟩;obtain⟨_,r0,r1,r2,rf0,rf1,rf2⟩:=hrb))
      exact xfx
    ·have hgx:=HGx.out hc
     clear HG0 HGx HGr
     have HS2:Hid (2<=S.length):=by have:=hSl.out;show 2<=_;omega
     have HGS:Hid _:=hgx
     have HVL:Hid (vs.length=S.length):=by show vs.length=_;rw[<-HSV.out,List.length_map]
     clear hgx
     rcases (by omega:¬k2<m\/(k2<m/\¬k2<3/\¬p<bs.length)) with hA|hB
     case' inl=>
      clear hc
      have HD7:Hid _:=HD.out
      go_wp2_with fail
     case' inr=>
      obtain⟨hB1,hB2,hB3⟩:=hB
      have hpl:(bs.length:Int)<=(p:Int):=xaa
      have hpn:(bs.length:Int)<=500/\(p:Int)<=500:=by have:=HD.out.rd.ys.len;have:=HD.out.rd.small;have:=HD.out.rd.hi;omega
      obtain⟨hpn1,hpn2⟩:=hpn
      clear hc hB3
      go_wp2_with (first|(go_at_call 25;refine yai HLf.out ?_;rintro e W7 ⟨rfl,k7⟩;have HD7:Hid _:=HD.out.keep k7;clear k7))
     all_goals
      refine yai HD7.out.next ?_
      rintro e W8 ⟨rfl,D8⟩
      have hx5:(nv bs p:Int)%5=((nv bs p%5:Nat):Int):=xaa
      have hn5:nv bs p%5<5:=Nat.mod_lt _ xaa
      have HO5:Hid (dgO bs i=mf bs S.length (ni bs p) (nv bs p%5)):=by show dgO bs i=_;unfold dgO;rw[HGS0.out,HGS.out]
      generalize nv bs p%5=n5 at hx5 hn5 HO5
      have HE8:Hid (Dd w W8 P a n cap bs J.1 S (mf bs S.length (ni bs p) 0).1 (mf bs S.length (ni bs p) 0).2):=⟨a1,c1,a2,c2,a3,c3,vs,HSV.out,D8⟩
      clear D8 HD7 HD
      go_wp2_with fail
      try rw[hx5]
      clear hx5
      go_loopw [9] (λt W=>∃k:Nat,k<=n5/\t=.int .i64 (k:Int)/\Hid (Dd w W P a n cap bs J.1 S (mf bs S.length (ni bs p) k).1 (mf bs S.length (ni bs p) k).2)) (λt _=>n5-(intOf t).toNat)
      case atStart=>exact⟨0,Nat.zero_le _,rfl,HE8.out⟩
      case round=>
       obtain⟨k3,hk3,rfl,hD3⟩:=hrel
       clear HE8
       by_cases hlt3:k3<n5
       ·obtain⟨a1,c1,a2,c2,a3,c3,vs,hsv,D⟩:=hD3.out
        have HLo:Hid _:=pR bs S.length (ni bs p) k3
        have HN:Hid (mf bs S.length (ni bs p) (k3+1)=((mf bs S.length (ni bs p) k3).1++[ug S.length (nv bs (mf bs S.length (ni bs p) k3).2)],ni bs (mf bs S.length (ni bs p) k3).2)):=rfl
        have HSV2:Hid _:=hsv
        have HVL2:Hid (vs.length=S.length):=by show vs.length=_;rw[<-hsv,List.length_map]
        have HD:Hid _:=D
        clear D hsv hD3
        generalize mf bs S.length (ni bs p) k3=O at HD HN HLo ⊢
        rw[HLo.out] at HD
        go_wp2_with fail
        refine yai HD.out.next ?_
        rintro e W9 ⟨rfl,D9⟩
        have hx:=HY.out O.2
        generalize nv bs O.2=x at hx HN ⊢
        replace HD:Hid _:=D9
        clear D9
        have hlv:vs.length<=100:=by have:=HVL2.out;have:=hSl.out;omega
        have hlv2:2<=vs.length:=by have:=HVL2.out;have:=HS2.out;omega
        generalize hvl:vs.length=l at HD hlv hlv2
        have HVl:Hid _:=hvl
        clear hvl
        by_cases h3:0<x%3
        ·have h3':0<(x:Int)%3:=xaa
         have hy:(l:Int)-1-(x:Int)/3%3=(l:Int)-1-((x/3%3:Nat):Int):=xaa
         have HX:Hid (ug S.length x=if (l:Int)-1-((x/3%3:Nat):Int)<0 then 0 else (l:Int)-1-((x/3%3:Nat):Int)):=by show ug _ _=_;unfold ug;rw[if_pos h3,<-HVL2.out,HVl.out]
         have hyb:-3<=(l:Int)-1-((x/3%3:Nat):Int)/\(l:Int)-1-((x/3%3:Nat):Int)<=100:=xaa
         generalize (l:Int)-1-((x/3%3:Nat):Int)=y at hy HX hyb
         have D3:=HD.out.keep (ez 0 0 W9 (.cells #[.int .i64 y] 3))
         have hr3:=D3.dg.r3
         have HD3:Hid _:=D3
         obtain⟨_,q0,q1,q2,_,_,_⟩:=HD.out.bx
         clear D3
         go_upto_region 22 with (first|(at_builtin;refine fk _ rfl _ _ rfl (w.heap.size+2) _ O.1 rfl hr3 ⟨W9.heap.size,0,none⟩ y rfl xac (by have:=HLo.out;omega) HD3.out.dg.sz ?_;intro g9 cap9 n9 w9 hn9 hown9 hc9 hat9;have hb9:=iO HD3.out.bx hc9 (λc=>by have:=(eG HD3.out.dg.r3 c).1;omega);have HD4:Hid _:=HD3.out.outs_ hc9 hown9 hn9 hat9;replace hn9:Hid _:=hn9;obtain⟨_,z0,z1,z2,f0,f1,f2⟩:=hb9))
         generalize w9.setCell ⟨w.heap.size+1,2,none⟩ (.slice (some ⟨g9,0,none⟩) n9 cap9)=W4 at HD4 ⊢
         have hk9:k3<n9:=by have:=hn9.out;rw[yak,HLo.out] at this;simp at this;omega
         have hrow:=HD4.out.dg.r3
         obtain⟨g8,cp8,eu,_,hg8,hcell⟩:=Ah hrow rfl (k:=k3) (by rw[yak,HLo.out];simp)
         have hyv:(O.1++[y]).getD k3 0=y:=by rw[yah,yar (by rw[HLo.out];exact yad),HLo.out,Nat.sub_self];rfl
         rw[hyv] at hcell
         injection eu with e1 e2 e3
         injection e1 with e1
         injection e1 with e1
         subst e1
         obtain⟨_,t0,t1,t2,_,_,_⟩:=HD4.out.bx
         have hfz:W4.frozen? ⟨g9,k3,none⟩=false:=by
          have hr:=HD4.out.dg.r3
          have en:n9=(O.1++[y]).length:=iX hr
          rw[en] at hr
          exact hr.frozenAt k3
         clear hrow hyv e2 e3 hown9 hc9 hat9 z0 z1 z2 f0 f1 f2 hr3 HD3 q0 q1 q2 hg8
         by_cases hy0:y<0
         ·have HO:Hid _:=HD4.out.setO (k:=k3) 0
          go_wp2_with fail
          go_roundw
          case rel=>
           refine⟨k3+1,by omega,by go_num,?_⟩
           have hst:=HO.out
           rw[show k3=O.1.length from HLo.out.symm,AU,HLo.out,<-HVl.out] at hst
           rw[HN.out,HX.out,if_pos hy0]
           exact Dd.ofO hst HSV2.out
          case measure=>simp[intOf];omega
         ·go_wp2_with fail
          go_roundw
          case rel=>
           have hst:=HD4.out
           rw[<-HVl.out] at hst
           exact⟨k3+1,by omega,by go_num,by rw[HN.out,HX.out,if_neg hy0];exact Dd.ofO hst HSV2.out⟩
          case measure=>simp[intOf];omega
        ·have h3':¬0<(x:Int)%3:=xaa
         have hxl:(x:Int)%(l:Int)=((x%l:Nat):Int):=by rw[Int.natCast_emod]
         have HX:Hid (ug S.length x=((x%l:Nat):Int)):=by show ug _ _=_;unfold ug;rw[if_neg h3,<-HVL2.out,HVl.out]
         have hyl:x%l<l:=Nat.mod_lt _ xaa
         generalize x%l=y' at hxl HX hyl
         obtain⟨y,hyy⟩:∃y:Int,(y':Int)=y:=⟨_,rfl⟩
         rw[hyy] at hxl HX
         have hy0:¬y<0:=xaa
         have hy1:y<=100:=xaa
         have hl0:¬l=0:=xaa
         have htm:(x:Int).tmod (l:Int)=y:=(Int.tmod_eq_emod_of_nonneg xaa).trans hxl
         clear hyy
         have D3:=HD.out.keep ((ez 0 0 W9 (.cells #[.int .i64 y] 3)).trans (eK 0 0 _ 1))
         have hr3:=D3.dg.r3
         have HD3:Hid _:=D3
         obtain⟨_,q0,q1,q2,_,_,_⟩:=HD.out.bx
         clear D3
         go_upto_region 21 with fail
         go_region_law ((refine sG _ rfl (.tmp 82) (.tmp 88) rfl (w.heap.size+2) _ O.1 (by simp[Act.eval]) hr3 ⟨W9.heap.size,0,none⟩ y (by simp[Act.eval]) xac (by have:=HLo.out;omega) HD3.out.dg.sz ?_;intro g9 cap9 n9 w9 hn9 hown9 hc9 hat9;have hb9:=iO HD3.out.bx hc9 (λc=>by have:=(eG HD3.out.dg.r3 c).1;omega);have HD4:Hid _:=HD3.out.outs_ hc9 hown9 hn9 hat9;replace hn9:Hid _:=hn9;obtain⟨_,z0,z1,z2,f0,f1,f2⟩:=hb9))
         all_goals
          generalize w9.setCell ⟨w.heap.size+1,2,none⟩ (.slice (some ⟨g9,0,none⟩) n9 cap9)=W4 at HD4 ⊢
          have hk9:k3<n9:=by have:=hn9.out;rw[yak,HLo.out] at this;simp at this;omega
          have hrow:=HD4.out.dg.r3
          obtain⟨g8,cp8,eu,_,hg8,hcell⟩:=Ah hrow rfl (k:=k3) (by rw[yak,HLo.out];simp)
          have hyv:(O.1++[y]).getD k3 0=y:=by rw[yah,yar (by rw[HLo.out];exact yad),HLo.out,Nat.sub_self];rfl
          rw[hyv] at hcell
          injection eu with e1 e2 e3
          injection e1 with e1
          injection e1 with e1
          subst e1
          obtain⟨_,t0,t1,t2,_,_,_⟩:=HD4.out.bx
          have hfz:W4.frozen? ⟨g9,k3,none⟩=false:=by
           have hr:=HD4.out.dg.r3
           have en:n9=(O.1++[y]).length:=iX hr
           rw[en] at hr
           exact hr.frozenAt k3
          clear hrow hyv e2 e3 hown9 hc9 hat9 z0 z1 z2 f0 f1 f2 hr3 HD3 q0 q1 q2 hg8
          go_wp2_with fail
          go_roundw
          case rel=>
           have hst:=HD4.out
           rw[<-HVl.out] at hst
           exact⟨k3+1,by omega,by go_num,by rw[HN.out,HX.out];exact Dd.ofO hst HSV2.out⟩
          case measure=>simp[intOf];omega
       ·have e3:k3=n5:=xaa
        have HF:Hid (Dd w wr P a n cap bs (dgI bs i).1 (dgG bs i).1 (dgO bs i).1 (dgO bs i).2):=by
         show Dd _ _ _ _ _ _ _ _ _ _ _
         rw[HGS0.out,HGS.out,HJ0.out,HO5.out,<-e3]
         exact hD3.out
        clear hD3 e3
        obtain⟨a1,c1,a2,c2,a3,c3,vs,hsv,D⟩:=HF.out
        have HFin:Hid _:=D.fin hsv
        obtain⟨_,q0,q1,q2,_,_,_⟩:=D.bx
        obtain⟨_,r0,r1,r2,f0,f1,f2⟩:=D.rs
        clear D hsv HF
        go_wp2_with fail
        obtain⟨t0,t1,t2⟩:=eY wr w.heap.size _ _ _ r0 r1 r2 (.slice a1 (dgI bs i).1.length c1) (.slice a2 vs.length c2) (.slice a3 (dgO bs i).1.length c3)
        exact yay (v:=eR a1 (dgI bs i).1.length c1 a2 vs.length c2 a3 (dgO bs i).1.length c3) (by simp[results,results23,go_sem,t0,t1,t2]) rfl HFin.out
structure Dy (w0 W:World)(P:Nat)(a:Option Addr)(n cap i:Nat)(bs:List Int)(R Q:Nat)(u1 u2 u3:Value)(ins:List Int)(vs:List Vl)(outs:List Int):Prop where
 rd:RdF W P a n cap i bs
 dg:DG W w0.heap.size u1 u2 u3 ins vs outs
 bx:RB W Q u1 u2 u3
 rs:RB W R gL gL gL
 p0:P<w0.heap.size
 rq:w0.heap.size<=R/\w0.heap.size<=Q/\R≠Q
 nr:∀b,u1.ownBlock=some b\/u2.ownBlock=some b\/u3.ownBlock=some b->b≠R/\b≠Q
 k0:Kept P (P+1) w0 W
theorem Dy.step {W:World}{i':Nat}(f:Dy w0 W P a n cap i bs R Q u1 u2 u3 ins vs outs)(hR:RdF W' P a n cap i' bs)(k:Kept P (P+1) W W'):Dy w0 W' P a n cap i' bs R Q u1 u2 u3 ins vs outs:=
 ⟨hR,f.dg.kept k (by have:=f.p0;omega),f.bx.kept k (by have:=f.p0;have:=f.rq;omega),f.rs.kept k (by have:=f.p0;have:=f.rq;omega),f.p0,f.rq,f.nr,f.k0.trans k⟩
theorem Dy.keep {W:World}(f:Dy w0 W P a n cap i bs R Q u1 u2 u3 ins vs outs)(k:Kept 0 0 W W'):Dy w0 W' P a n cap i bs R Q u1 u2 u3 ins vs outs:=f.step (f.rd.keep0 k) (e8 k)
theorem Dy.next {W:World}(f:Dy w0 W P a n cap i bs R Q u1 u2 u3 ins vs outs):
  Calls prog 19 #[.pointer (some ⟨P,0,none⟩)] W λe W'=>e=.returned (.int .i64 (nv bs i:Int))/\Dy w0 W' P a n cap (ni bs i) bs R Q u1 u2 u3 ins vs outs:=
 (iu W P a n cap i bs f.rd).mono λ_ _ q=>⟨q.1,f.step q.2.1 q.2.2.1⟩
theorem Dy.vals {W:World}(f:Dy w0 W P a n cap i bs R Q u1 u2 u3 ins vs outs)(c9:Chg (λb=>u2.ownBlock=some b) W W')(ho:W'.ownsRow w0.heap.size 35 6 (.slice (some ⟨g,0,none⟩) m c) m (fp vs'))(hm:m=vs'.length)(hg:u2.ownBlock=some g\/W.heap.size<=g)(hk:∀v∈vs',v.k<18446744073709551616)(kk:Kept Q (Q+1) W' W2)(hb:RB W2 Q u1 (.slice (some ⟨g,0,none⟩) m c) u3):Dy w0 W2 P a n cap i bs R Q u1 (.slice (some ⟨g,0,none⟩) m c) u3 ins vs' outs:=by
 have hp:=f.p0
 have hq:=f.rq
 have hB:∀b,u2.ownBlock=some b->w0.heap.size<=b/\b≠R/\b≠Q:=λb hb=>⟨(eG f.dg.r2 hb).1,f.nr b (.inr (.inl hb))⟩
 have hgn:g≠R/\g≠Q:=by
  rcases hg with c|c
  ·exact(hB g c).2
  ·have:=f.rs.sz;have:=f.bx.sz;omega
 have hr:=iO f.rs c9 (λc=>(hB _ c).2.1 rfl)
 have hd:=f.dg.vals c9 ho hm hg hk
 have hrd:=nN f.rd c9 λb hb=>by have:=(hB b hb).1;omega
 have own:∀{u:Value} {xs:List Value} {m e s:Nat},W'.ownsRow w0.heap.size e s u m xs->(∀b,u.ownBlock=some b->b≠Q)->W2.ownsRow w0.heap.size e s u m xs:=λo h=>fK o kk λb hb=>by have:=h b hb;omega
 refine⟨hrd.keep kk (.inl xaa),⟨own hd.r1 λb hb=>(f.nr b (.inl hb)).2,own hd.r2 λb hb=>?_,own hd.r3 λb hb=>(f.nr b (.inr (.inr hb))).2,hd.a12,hd.a13,hd.a23,hd.k,yan hd.sz kk.size⟩,hb,hr.kept kk xaa,hp,hq,?_,⟨kk.os.trans (c9.os.trans f.k0.os),kk.tape.trans (c9.tape.trans f.k0.tape),kk.output.trans (c9.output.trans f.k0.output),yan f.k0.size (yan c9.size kk.size),λb hb hn=>?_⟩⟩
 ·have e:b=g:=by simpa[Value.ownBlock] using hb.symm
  subst e;exact hgn.2
 ·rintro b (h|h|h)
  ·exact f.nr b (.inl h)
  ·have e:b=g:=by simpa[Value.ownBlock] using h.symm
   subst e;exact hgn
  ·exact f.nr b (.inr (.inr h))
 ·have h1:=f.k0.size
  have h2:=c9.size
  rw[kk.block b xaa xaa,c9.block b xaa (λq=>by have:=(hB b q).1;omega)]
  exact f.k0.block b hb hn
theorem Dy.put {w0 W:World}{P:Nat}{a:Option Addr}{n cap i:Nat}{bs:List Int}{R Q:Nat}{a1 a2 a3:Option Addr}{n1 c1 c2 n3 c3:Nat}{ins:List Int}{vs:List Vl}{outs:List Int}{W1:World}(f:Dy w0 W P a n cap i bs R Q (.slice a1 n1 c1) (.slice a2 vs.length c2) (.slice a3 n3 c3) ins vs outs)(k:Kept 0 0 W W1)(v:Vl)(hv:v.k<18446744073709551616)(hn:vs.length<=100000):
  Calls prog 24 #[eR a1 n1 c1 a2 vs.length c2 a3 n3 c3,v.agg] W1 λe W9=>∃g' cap',e=.returned (eR a1 n1 c1 (some ⟨g',0,none⟩) (vs.length+1) cap' a3 n3 c3)/\RB W9 Q (.slice a1 n1 c1) (.slice a2 vs.length c2) (.slice a3 n3 c3)/\Dy w0 (fe W9 Q (.slice a1 n1 c1) (.slice (some ⟨g',0,none⟩) (vs.length+1) cap') (.slice a3 n3 c3)) P a n cap i bs R Q (.slice a1 n1 c1) (.slice (some ⟨g',0,none⟩) (vs.length+1) cap') (.slice a3 n3 c3) ins (vs++[v]) outs:=by
 have f1:=f.keep k
 refine(oj W1 a1 a2 a3 n1 c1 c2 n3 c3 w0.heap.size vs v f1.dg.r2 f1.dg.sz xaa).mono ?_
 rintro e W9 ⟨g',cap',rfl,hown,hs⟩
 have c9:Chg (λb=>(Value.slice a2 vs.length c2).ownBlock=some b) W1 W9:=⟨hs.chg.os,hs.chg.tape,hs.chg.output,hs.chg.size,λb hb hn=>hs.chg.block b hb (by rintro (c|c);exact c;exact hn c)⟩
 have hg:(Value.slice a2 vs.length c2).ownBlock=some g'\/W1.heap.size<=g':=by
  exact xfe
 have hk:∀u∈vs++[v],u.k<18446744073709551616:=λu hu=>by
  exact xee
 have hb:=iO f1.bx c9 (λc=>(f.nr _ (.inr (.inl c))).2 rfl)
 exact⟨g',cap',rfl,hb,f1.vals c9 hown xac hg hk (fc _ _ _ _ _) (l7 hb _ _ _)⟩
theorem Dy.fin {W:World}(f:Dy w0 W P a n cap i bs R Q (.slice a1 n1 c1) (.slice a2 vs.length c2) (.slice a3 n3 c3) ins vs outs)(hs:vs.map sv=S):
  DgF w0 P a n cap bs ins S outs i (.returned (eR a1 n1 c1 a2 vs.length c2 a3 n3 c3)) (fe W R (.slice a1 n1 c1) (.slice a2 vs.length c2) (.slice a3 n3 c3)):=by
 have e1:n1=ins.length:=iX f.dg.r1
 have e3:n3=outs.length:=iX f.dg.r3
 subst e1 e3
 have kk:=fc W R (.slice a1 ins.length c1) (.slice a2 vs.length c2) (.slice a3 outs.length c3)
 have hp:=f.p0
 have hq:=f.rq
 have h1:=f.k0.size
 have own:∀{u:Value} {xs:List Value} {m e s:Nat},W.ownsRow w0.heap.size e s u m xs->(∀b,u.ownBlock=some b->b≠R)->(fe W R (.slice a1 ins.length c1) (.slice a2 vs.length c2) (.slice a3 outs.length c3)).ownsRow w0.heap.size e s u m xs:=λo h=>fK o kk λb hb=>by have:=h b hb;omega
 refine⟨a1,c1,a2,c2,a3,c3,vs,rfl,hs,⟨own f.dg.r1 λb hb=>(f.nr b (.inl hb)).1,own f.dg.r2 λb hb=>(f.nr b (.inr (.inl hb))).1,own f.dg.r3 λb hb=>(f.nr b (.inr (.inr hb))).1,f.dg.a12,f.dg.a13,f.dg.a23,f.dg.k,yan f.dg.sz kk.size⟩,f.rd.keep kk (.inl xaa),⟨kk.os.trans f.k0.os,kk.tape.trans f.k0.tape,kk.output.trans f.k0.output,yan h1 kk.size,λb hb hn=>?_⟩⟩
 exact xji
theorem pS (w:World){rest:List Oper}{o:Oper}{a:Act}{Q:Exit->Act->World->Prop}(hgd:o.guard=none)(s x:Operand)
  (ho:o.op=.call {callee:=.builtin .append,args:=#[s,x],argTypes:=#[24,24]})
  (B:Nat) (u:Value) (vs:List Vl) (hs:a.eval s=u) (hown:w.ownsRow B 35 6 u vs.length (fp vs))
  (b:Nat) (v:Vl) (hx:a.eval x=.slice (some ⟨b,0,none⟩) 1 1) (hnews:∀j u,v.cells[j]? =some u->w.cell? ((⟨b,0,none⟩:Addr).add j)=some u)
  (h63:vs.length+1<=1000000) (hbase:B<=w.heap.size)
  (h:∀g cap n w',n=(vs++[v]).length->w'.ownsRow B 35 6 (.slice (some ⟨g,0,none⟩) n cap) n (fp (vs++[v]))->Chg (λb=>u.ownBlock=some b) w w'->(u.ownBlock=some g\/g=w.heap.size)->wpList prog ops Q rest (a.put o.dst (.slice (some ⟨g,0,none⟩) n cap)) w'):wpList prog ops Q (o::rest) a w:=by
 obtain⟨i0,hi,hz0,hz1,hz2⟩:=info_parts oh
 refine wpList_append_lies w hgd s x 24 ho B 35 i0 (ib 0 0 0 0 0 0) 6 48 underlying24 hi hz0 hz1 hz2 rfl xab u vs.length _ hs hown ⟨b,0,none⟩ 1 1 v.cells hx rfl hnews (uK v) xab (by unfold maxLen;omega) xaa hbase _ rfl ?_
 intro g cap w' h1 h2 h3 _
 have e:vs.length+1=(vs++[v]).length:=by rw[yak];rfl
 rw[e] at h1 ⊢
 refine h g cap _ w' rfl ?_ (gD h2) h3
 rw[jf,kz]
 exact h1
def lj (sz:Nat):Nat->List Vl
 |0=>[]
 |k+1=>lj sz k++[⟨1,(sz:Int),0,0,0,0⟩]
theorem nV (sz:Nat):∀k,(lj sz k).length=k
 |0=>rfl
 |k+1=>by rw[lj,yak,nV sz k];rfl
def Dw (w W:World)(P:Nat)(a:Option Addr)(n cap i:Nat)(bs:List Int)(S:List Vl):Prop:=
 ∃a2 c2 vs,vs.map sv=S/\Dy w W P a n cap i bs w.heap.size (w.heap.size+2) gL (.slice a2 vs.length c2) (.slice (some ⟨w.heap.size+1,0,none⟩) 1 1) [] vs [0]
theorem Df {W:World}{p:Nat}{b0 b1 b2:Value}(t:RB W p b0 b1 b2)(x:Value):RB (W.setCell ⟨p,1,none⟩ x) p b0 x b2:=
 ⟨by simpa using t.sz,by rw[eW _ _ _ _ _ _ (.inr xaa)];exact t.q0,fR _ _ _ _ _ t.q1,by rw[eW _ _ _ _ _ _ (.inr xaa)];exact t.q2,by simp[t.f0],by simp[t.f1],by simp[t.f2]⟩
theorem vw (hR:RdF w P a n cap i bs):
  Dy w (((w.alloc eZ).alloc (.cells #[.int .i64 0] 3)).alloc (.cells #[.slice none 0 0,.slice none 0 0,.slice (some ⟨w.heap.size+1,0,none⟩) 1 1] 26)) P a n cap i bs w.heap.size (w.heap.size+2) gL gL (.slice (some ⟨w.heap.size+1,0,none⟩) 1 1) [] [] [0]:=by
 have ka:=ez 0 0 w eZ
 have kb:=ez 0 0 (w.alloc eZ) (.cells #[.int .i64 0] 3)
 have kc:=ez 0 0 ((w.alloc eZ).alloc (.cells #[.int .i64 0] 3)) (.cells #[.slice none 0 0,.slice none 0 0,.slice (some ⟨w.heap.size+1,0,none⟩) 1 1] 26)
 have h1:(w.alloc eZ).heap.size=w.heap.size+1:=by simp
 have h2:((w.alloc eZ).alloc (.cells #[.int .i64 0] 3)).heap.size=w.heap.size+2:=by simp
 have kw:=(ka.trans kb).trans kc
 have r3:=World.ownsRow_lit (base:=w.heap.size) (e:=3) (size:=1) (w.alloc eZ) #[.int .i64 0] 1 xaa (by unfold maxLen;omega) rfl
 rw[h1] at r3
 have hb:=oN (S:=λ_=>False) ((w.alloc eZ).alloc (.cells #[.int .i64 0] 3)) _ #[.slice none 0 0,.slice none 0 0,.slice (some ⟨w.heap.size+1,0,none⟩) 1 1] 26 (Kept.refl 0 0 _).chg (λc=>c)
 rw[h2] at hb
 refine⟨hR.keep0 kw,⟨yav _ _ _ _,yav _ _ _ _,eO r3 kc,?_,?_,?_,?_,kw.size⟩,⟨hb.2.2,hb.1 0,hb.1 1,hb.1 2,hb.2.1 0,hb.2.1 1,hb.2.1 2⟩,(fZ w).keep (kb.trans kc),hR.lt,⟨yad,by omega,by omega⟩,?_,e8 kw⟩
 ·intro b h;cases h
 ·intro b h;cases h
 ·intro b h;cases h
 ·intro v hv;cases hv
 ·rintro b (h|h|h)
  ·cases h
  ·cases h
  ·simp[Value.ownBlock] at h;omega
theorem E0 (hR:RdF w P a n cap i bs)(m sz:Nat)(hm:m<=3000):
  Calls prog 40 #[.int .i64 (m:Int),.int .i64 (sz:Int)] w (DgF w P a n cap bs [] (lj sz m) [0] i):=by
 have HS0:Hid _:=vw hR
 clear hR
 go_enter func40,ntmps40
 go_wp2_with fail
 generalize ((w.alloc eZ).alloc (.cells #[.int .i64 0] 3)).alloc (.cells #[.slice none 0 0,.slice none 0 0,.slice (some ⟨w.heap.size+1,0,none⟩) 1 1] 26)=W0 at HS0 ⊢
 go_loopw [6] (λt W=>∃k:Nat,k<=m/\t=.int .i64 (k:Int)/\Hid (Dw w W P a n cap i bs (lj sz k))) (λt _=>m-(intOf t).toNat)
 case atStart=>exact⟨0,Nat.zero_le _,rfl,⟨none,0,[],rfl,HS0.out⟩⟩
 case round=>
  obtain⟨k,hk,rfl,hD⟩:=hrel
  clear HS0
  obtain⟨a2,c2,vs,hsv,D⟩:=hD.out
  clear hD
  by_cases hlt:k<m
  ·have HVL:Hid (vs.length=k):=by show _=_;have h9:=congrArg List.length hsv;rw[List.length_map,nV] at h9;exact h9
   have hk3:(k:Int)%3=((k%3:Nat):Int):=xaa
   have hkb:k%3<3:=Nat.mod_lt _ xaa
   generalize k%3=r at hk3 hkb
   have D3:=D.keep (ez 0 0 wr (fX 1 (sz:Int) 0 0 0 (floatOfInt .f64 (r:Int))))
   have hr2:=D3.dg.r2
   have HD3:Hid _:=D3
   have HSV:Hid _:=hsv
   obtain⟨_,q0,q1,q2,_,_,_⟩:=D.bx
   clear D D3 hsv
   go_upto_region 4 with (first|(at_builtin;refine pS _ rfl _ _ rfl w.heap.size _ vs rfl hr2 wr.heap.size ⟨1,(sz:Int),0,0,0,floatOfInt .f64 (r:Int)⟩ rfl (by intro j u hu;have h6:=qn wr ⟨1,(sz:Int),0,0,0,floatOfInt .f64 (r:Int)⟩ 0 j u hu;exact h6) (by have:=HVL.out;omega) HD3.out.dg.sz ?_;intro g9 cap9 n9 w9 hn9 hown9 hc9 hat9;have hb9:=iO HD3.out.bx hc9 (λc=>(HD3.out.nr _ (.inr (.inl c))).2 rfl);have HD4:Hid _:=HD3.out.vals hc9 hown9 hn9 (hat9.imp id λe=>Nat.le_of_eq e.symm) (by intro u hu;rcases List.mem_append.1 hu with c|c;exact HD3.out.dg.k u c;simp only[List.mem_singleton] at c;subst c;exact pD _) (eL w9 ⟨w.heap.size+2,1,none⟩ (.slice (some ⟨g9,0,none⟩) n9 cap9) yac) (Df hb9 _);replace hn9:Hid _:=hn9;obtain⟨_,z0,z1,z2,f0,f1,f2⟩:=hb9))
   go_wp2_with fail
   go_roundw
   case rel=>
    refine⟨k+1,by omega,by go_num,some ⟨g9,0,none⟩,cap9,vs++[⟨1,(sz:Int),0,0,0,floatOfInt .f64 (r:Int)⟩],by rw[List.map_append,HSV.out];rfl,?_⟩
    have h9:=HD4.out
    rw[hn9.out] at h9
    rw[hn9.out]
    exact h9
   case measure=>simp[intOf];omega
  ·have e3:k=m:=xaa
   rw[e3] at hsv
   have HFin:Hid _:=D.fin hsv
   obtain⟨_,q0,q1,q2,_,_,_⟩:=D.bx
   obtain⟨_,r0,r1,r2,f0,f1,f2⟩:=D.rs
   clear D hsv e3
   go_wp2_with fail
   obtain⟨t0,t1,t2⟩:=eY wr w.heap.size _ _ _ r0 r1 r2 (.slice none 0 0) (.slice a2 vs.length c2) (.slice (some ⟨w.heap.size+1,0,none⟩) 1 1)
   exact yay (v:=eR none 0 0 a2 vs.length c2 (some ⟨w.heap.size+1,0,none⟩) 1 1) (by simp[results,results40,go_sem,t0,t1,t2]) rfl HFin.out
theorem uh:∀(vs:List Vl) (j q:Nat) (x:Value) (v':Vl),j<vs.length->q<6->v'.cells=(vs.getD j Vl.zero).cells.set q x->fp (vs.set j v')=(fp vs).set (j*6+q) x
 |u::r,0,q,x,v',_,hq,hv=>by
  have hu:u.cells.length=6:=rfl
  rw[List.set_cons_zero,fp,fp,Nat.zero_mul,Nat.zero_add,List.set_append_left _ _ (by rw[hu];exact hq)]
  exact congrArg (· ++fp r) hv
 |u::r,j+1,q,x,v',hj,hq,hv=>by
  have hu:u.cells.length=6:=rfl
  rw[List.set_cons_succ,fp,fp,List.set_append_right _ _ (by rw[hu];omega),hu,show(j+1)*6+q-6=j*6+q by omega,uh r j q x v' (by simpa using hj) hq hv]
theorem DG.setV (f:DG w B u1 (.slice (some ⟨g,0,none⟩) m c) u3 ins vs outs){v':Vl}(hj:j<vs.length)(hq:q<6)(hv:v'.cells=(vs.getD j Vl.zero).cells.set q x)(hk:v'.k<18446744073709551616):DG (w.setCell ⟨g,j*6+q,none⟩ x) B u1 (.slice (some ⟨g,0,none⟩) m c) u3 ins (vs.set j v') outs:=by
 have e:m=vs.length:=iX f.r2
 subst e
 have h2:=(f.r2.stored (j*6+q) x).1
 refine⟨eH f.r1 λh=>f.a12 _ h rfl,?_,eH f.r3 λh=>f.a23 _ rfl h,f.a12,f.a13,f.a23,λu hu=>?_,by simpa using f.sz⟩
 ·rw[List.length_set,uh vs j q x v' hj hq hv]
  exact h2
 ·rcases List.mem_or_eq_of_mem_set hu with c|c
  ·exact f.k u c
  ·rw[c];exact hk
theorem Dy.setG {W:World}{v1 v2 v3:Value}{ins':List Int}{outs':List Int}{S:Nat->Prop}(f:Dy w0 W P a n cap i bs R Q u1 u2 u3 ins vs outs)(c9:Chg S W W')(hS:∀b,S b->w0.heap.size<=b/\b≠R/\b≠Q)(hd:DG W' w0.heap.size v1 v2 v3 ins' vs' outs')(hn:∀b,v1.ownBlock=some b\/v2.ownBlock=some b\/v3.ownBlock=some b->b≠R/\b≠Q)(kk:Kept Q (Q+1) W' W2)(hb:RB W2 Q v1 v2 v3):Dy w0 W2 P a n cap i bs R Q v1 v2 v3 ins' vs' outs':=by
 have hp:=f.p0
 have hq:=f.rq
 have hr:=iO f.rs c9 (λc=>(hS _ c).2.1 rfl)
 have hrd:=nN f.rd c9 λb hb=>by have:=(hS b hb).1;omega
 have own:∀{u:Value} {xs:List Value} {m e s:Nat},W'.ownsRow w0.heap.size e s u m xs->(∀b,u.ownBlock=some b->b≠Q)->W2.ownsRow w0.heap.size e s u m xs:=λo h=>fK o kk λb hb=>by have:=h b hb;omega
 refine⟨hrd.keep kk (.inl xaa),⟨own hd.r1 λb hb=>(hn b (.inl hb)).2,own hd.r2 λb hb=>(hn b (.inr (.inl hb))).2,own hd.r3 λb hb=>(hn b (.inr (.inr hb))).2,hd.a12,hd.a13,hd.a23,hd.k,yan hd.sz kk.size⟩,hb,hr.kept kk xaa,hp,hq,hn,⟨kk.os.trans (c9.os.trans f.k0.os),kk.tape.trans (c9.tape.trans f.k0.tape),kk.output.trans (c9.output.trans f.k0.output),yan f.k0.size (yan c9.size kk.size),λb hb hn=>?_⟩⟩
 have h1:=f.k0.size
 have h2:=c9.size
 rw[kk.block b xaa xaa,c9.block b xaa (λq=>by have:=(hS b q).1;omega)]
 exact f.k0.block b hb hn
theorem Dy.outs_ {W:World}{x:Int}(f:Dy w0 W P a n cap i bs R Q u1 u2 u3 ins vs outs)(c9:Chg (λb=>u3.ownBlock=some b) W W')(ho:W'.ownsRow w0.heap.size 3 1 (.slice (some ⟨g,0,none⟩) m c) m ((outs++[x]).map (Value.int .i64)))(hm:m=(outs++[x]).length)(hg:u3.ownBlock=some g\/g=W.heap.size):RB W' Q u1 u2 u3/\Dy w0 (W'.setCell ⟨Q,2,none⟩ (.slice (some ⟨g,0,none⟩) m c)) P a n cap i bs R Q u1 u2 (.slice (some ⟨g,0,none⟩) m c) ins vs (outs++[x]):=by
 have hB:∀b,u3.ownBlock=some b->w0.heap.size<=b/\b≠R/\b≠Q:=λb hb=>⟨(eG f.dg.r3 hb).1,f.nr b (.inr (.inr hb))⟩
 have hb:=iO f.bx c9 (λc=>(hB _ c).2.2 rfl)
 refine⟨hb,f.setG c9 hB (f.dg.outs_ c9 ho hm (hg.imp id λe=>Nat.le_of_eq e.symm)) ?_ (eL W' ⟨Q,2,none⟩ _ yac) (sE hb _).2⟩
 rintro b (h|h|h)
 ·exact f.nr b (.inl h)
 ·exact f.nr b (.inr (.inl h))
 ·exact xgz
theorem Dy.ins_ {W:World}{x:Int}(f:Dy w0 W P a n cap i bs R Q u1 u2 u3 ins vs outs)(c9:Chg (λb=>u1.ownBlock=some b) W W')(ho:W'.ownsRow w0.heap.size 3 1 (.slice (some ⟨g,0,none⟩) m c) m ((ins++[x]).map (Value.int .i64)))(hm:m=(ins++[x]).length)(hg:u1.ownBlock=some g\/g=W.heap.size):RB W' Q u1 u2 u3/\Dy w0 (W'.setCell ⟨Q,0,none⟩ (.slice (some ⟨g,0,none⟩) m c)) P a n cap i bs R Q (.slice (some ⟨g,0,none⟩) m c) u2 u3 (ins++[x]) vs outs:=by
 have hB:∀b,u1.ownBlock=some b->w0.heap.size<=b/\b≠R/\b≠Q:=λb hb=>⟨(eG f.dg.r1 hb).1,f.nr b (.inl hb)⟩
 have hb:=iO f.bx c9 (λc=>(hB _ c).2.2 rfl)
 refine⟨hb,f.setG c9 hB (f.dg.ins_ c9 ho hm (hg.imp id λe=>Nat.le_of_eq e.symm)) ?_ (eL W' ⟨Q,0,none⟩ _ yac) (sE hb _).1⟩
 rintro b (h|h|h)
 ·exact xgz
 ·exact f.nr b (.inr (.inl h))
 ·exact f.nr b (.inr (.inr h))
theorem Dy.setV {W:World}(f:Dy w0 W P a n cap i bs R Q u1 (.slice (some ⟨g,0,none⟩) m c) u3 ins vs outs){v':Vl}(hj:j<vs.length)(hq:q<6)(hv:v'.cells=(vs.getD j Vl.zero).cells.set q x)(hk:v'.k<18446744073709551616):Dy w0 (W.setCell ⟨g,j*6+q,none⟩ x) P a n cap i bs R Q u1 (.slice (some ⟨g,0,none⟩) m c) u3 ins (vs.set j v') outs:=by
 have c9:=lB (S:=λb=>b=g) W g (j*6+q) x rfl
 have hg:w0.heap.size<=g/\g≠R/\g≠Q:=⟨(eG f.dg.r2 rfl).1,f.nr g (.inr (.inl rfl))⟩
 exact f.setG c9 (λb hb=>by subst hb;exact hg) (f.dg.setV hj hq hv hk) f.nr (Kept.refl _ _ _) (iO f.bx c9 λc=>hg.2.2 c.symm)
theorem Dy.box (f:DG w w0.heap.size u1 u2 u3 ins vs outs)(hR:RdF w P a n cap i bs)(hP:P<w0.heap.size)(k:Kept P (P+1) w0 w):
  Dy w0 ((w.alloc (.cells #[u1,u2,u3] 26)).alloc eZ) P a n cap i bs (w.heap.size+1) w.heap.size u1 u2 u3 ins vs outs:=by
 obtain⟨S,k1⟩:=GrS.start f hR hP
 refine⟨S.rd,S.dg,S.bx,S.rs,hP,⟨by have:=f.sz;omega,f.sz,by omega⟩,λb hb=>?_,k.trans (e8 k1)⟩
 have:=S.far b hb
 omega
theorem ia (h:j<vs.length):vs.getD j Vl.zero∈vs:=by
 rw[yah,yal h]
 exact List.getElem_mem h
theorem svd (vs:List Vl)(j:Nat):vd (vs.map sv) j=sv (vd vs j):=by
 exact xhv
theorem Dy.finS {W:World}{l:Nat}{S':List Vl}(f:Dy w0 W P a n cap i bs R Q (.slice a1 n1 c1) (.slice a2 l c2) (.slice a3 n3 c3) ins vs outs)(hl:vs.length=l)(hs:vs.map sv=S'):
  DgF w0 P a n cap bs ins S' outs i (.returned (eR a1 n1 c1 a2 l c2 a3 n3 c3)) (fe W R (.slice a1 n1 c1) (.slice a2 l c2) (.slice a3 n3 c3)):=by
 subst hl
 exact f.fin hs
theorem Gp (f:DG w w0.heap.size (.slice a1 ins.length c1) (.slice a2 vs.length c2) (.slice a3 outs.length c3) ins vs outs)(hR:RdF w P a n cap i bs)(hP:P<w0.heap.size)(k0:Kept P (P+1) w0 w)(hs:vs.map sv=S)(hn:vs.length<=100000)(h1:0<S.length)(hk:nv bs i%12=0):
  Calls prog 42 #[eR a1 ins.length c1 a2 vs.length c2 a3 outs.length c3,.pointer (some ⟨P,0,none⟩)] w (DgF w0 P a n cap bs ins (S.set (nv bs (ni bs i)%S.length) ({vd S (nv bs (ni bs i)%S.length) with a:=(((nv bs (ni bs i)%S.length):Nat):Int)})) outs (ni bs (ni bs i))):=by
 have HD0:Hid _:=Dy.box f hR hP k0
 have hx1:=fw hR.ys i
 have hx2:=fw hR.ys (ni bs i)
 have HSL:Hid (S.length=vs.length):=by show _=_;rw[<-hs,List.length_map]
 have HSV:Hid _:=hs
 have HKx:Hid _:=hk
 clear f hR k0 hs hk
 go_enter func42,ntmps42
 go_wp2_with fail
 generalize (w.alloc (.cells #[.slice a1 ins.length c1,.slice a2 vs.length c2,.slice a3 outs.length c3] 26)).alloc eZ=W0 at HD0 ⊢
 refine yai HD0.out.next ?_
 rintro e W1 ⟨rfl,D1⟩
 have HD1:Hid _:=D1
 clear D1 HD0
 go_wp2_with fail
 refine yai HD1.out.next ?_
 rintro e W2 ⟨rfl,D2⟩
 have HD:Hid _:=D2
 clear D2 HD1
 have h0:0<vs.length:=by have:=HSL.out;omega
 have hjm:nv bs (ni bs i)%vs.length<vs.length:=Nat.mod_lt _ h0
 have hj1:(nv bs (ni bs i):Int).tmod (vs.length:Int)=((nv bs (ni bs i)%vs.length:Nat):Int):=rfl
 have hj2:(nv bs (ni bs i):Int)%(vs.length:Int)=((nv bs (ni bs i)%vs.length:Nat):Int):=by rw[Int.natCast_emod]
 have HJE:Hid (nv bs (ni bs i)%vs.length=nv bs (ni bs i)%S.length):=by show _=_;rw[HSL.out]
 generalize nv bs (ni bs i)%vs.length=j at hjm hj1 hj2 HJE
 have hne:¬vs=[]:=λe=>by rw[e] at h0;exact Nat.lt_irrefl _ h0
 obtain⟨g,cp,eu,_,hg2,hat⟩:=gC HD.out.dg.r2 rfl hjm
 cases eu
 obtain⟨y0,y1,y2,y3,y4,y5⟩:=hat
 have hfz:∀o,W2.frozen? ⟨g,o,none⟩=false:=λo=>HD.out.dg.r2.frozenAt o
 have hkk:(vd vs j).k<18446744073709551616:=HD.out.dg.k _ (ia hjm)
 have HK:Hid _:=hkk
 clear hkk
 obtain⟨_,q0,q1,q2,_,_,_⟩:=HD.out.bx
 have hk':(nv bs i:Int)%12=0:=by have:=HKx.out;omega
 clear HKx
 have HD4:Hid _:=HD.out.setV (q:=2) (x:=.int .i64 (j:Int)) (v':=⟨(vd vs j).op,(vd vs j).len,(j:Int),(vd vs j).b,(vd vs j).c,(vd vs j).k⟩) hjm xab rfl HK.out
 have HFin:Hid _:=HD4.out.finS (S':=S.set (nv bs (ni bs i)%S.length) ({vd S (nv bs (ni bs i)%S.length) with a:=(((nv bs (ni bs i)%S.length):Nat):Int)})) (List.length_set ..) (by rw[List.map_set,HSV.out,<-HJE.out];exact congrArg (S.set j) (by rw[<-HSV.out,svd];rfl))
 have hz:=hfz (j*6+2)
 exact xba
theorem Gq (f:DG w w0.heap.size (.slice a1 ins.length c1) (.slice a2 vs.length c2) (.slice a3 outs.length c3) ins vs outs)(hR:RdF w P a n cap i bs)(hP:P<w0.heap.size)(k0:Kept P (P+1) w0 w)(hs:vs.map sv=S)(hn:vs.length<=100000)(h1:0<S.length)(hk:nv bs i%12=4):
  Calls prog 42 #[eR a1 ins.length c1 a2 vs.length c2 a3 outs.length c3,.pointer (some ⟨P,0,none⟩)] w (DgF w0 P a n cap bs ins (S.set (nv bs (ni bs i)%S.length) ({vd S (nv bs (ni bs i)%S.length) with op:=(nv bs (ni bs i):Int)%17})) outs (ni bs (ni bs i))):=by
 have HD0:Hid _:=Dy.box f hR hP k0
 have hx1:=fw hR.ys i
 have hx2:=fw hR.ys (ni bs i)
 have HSL:Hid (S.length=vs.length):=by show _=_;rw[<-hs,List.length_map]
 have HSV:Hid _:=hs
 have HKx:Hid _:=hk
 clear f hR k0 hs hk
 go_enter func42,ntmps42
 go_wp2_with fail
 generalize (w.alloc (.cells #[.slice a1 ins.length c1,.slice a2 vs.length c2,.slice a3 outs.length c3] 26)).alloc eZ=W0 at HD0 ⊢
 refine yai HD0.out.next ?_
 rintro e W1 ⟨rfl,D1⟩
 have HD1:Hid _:=D1
 clear D1 HD0
 go_wp2_with fail
 refine yai HD1.out.next ?_
 rintro e W2 ⟨rfl,D2⟩
 have HD:Hid _:=D2
 clear D2 HD1
 have h0:0<vs.length:=by have:=HSL.out;omega
 have hjm:nv bs (ni bs i)%vs.length<vs.length:=Nat.mod_lt _ h0
 have hj1:(nv bs (ni bs i):Int).tmod (vs.length:Int)=((nv bs (ni bs i)%vs.length:Nat):Int):=rfl
 have hj2:(nv bs (ni bs i):Int)%(vs.length:Int)=((nv bs (ni bs i)%vs.length:Nat):Int):=by rw[Int.natCast_emod]
 have HJE:Hid (nv bs (ni bs i)%vs.length=nv bs (ni bs i)%S.length):=by show _=_;rw[HSL.out]
 generalize nv bs (ni bs i)%vs.length=j at hjm hj1 hj2 HJE
 have hne:¬vs=[]:=λe=>by rw[e] at h0;exact Nat.lt_irrefl _ h0
 obtain⟨g,cp,eu,_,hg2,hat⟩:=gC HD.out.dg.r2 rfl hjm
 cases eu
 obtain⟨y0,y1,y2,y3,y4,y5⟩:=hat
 have hfz:∀o,W2.frozen? ⟨g,o,none⟩=false:=λo=>HD.out.dg.r2.frozenAt o
 have hkk:(vd vs j).k<18446744073709551616:=HD.out.dg.k _ (ia hjm)
 have HK:Hid _:=hkk
 clear hkk
 obtain⟨_,q0,q1,q2,_,_,_⟩:=HD.out.bx
 have hk':(nv bs i:Int)%12=4:=by have:=HKx.out;omega
 clear HKx
 have HD4:Hid _:=HD.out.setV (q:=0) (x:=.int .i64 ((nv bs (ni bs i):Int)%17)) (v':=⟨(nv bs (ni bs i):Int)%17,(vd vs j).len,(vd vs j).a,(vd vs j).b,(vd vs j).c,(vd vs j).k⟩) hjm xab rfl HK.out
 have HFin:Hid _:=HD4.out.finS (S':=S.set (nv bs (ni bs i)%S.length) ({vd S (nv bs (ni bs i)%S.length) with op:=(nv bs (ni bs i):Int)%17})) (List.length_set ..) (by rw[List.map_set,HSV.out,<-HJE.out];exact congrArg (S.set j) (by rw[<-HSV.out,svd];rfl))
 exact xcw
theorem Gt (f:DG w w0.heap.size (.slice a1 ins.length c1) (.slice a2 vs.length c2) (.slice a3 outs.length c3) ins vs outs)(hR:RdF w P a n cap i bs)(hP:P<w0.heap.size)(k0:Kept P (P+1) w0 w)(hs:vs.map sv=S)(hn:vs.length<=100000)(h1:0<S.length)(hk:nv bs i%12=8):
  Calls prog 42 #[eR a1 ins.length c1 a2 vs.length c2 a3 outs.length c3,.pointer (some ⟨P,0,none⟩)] w (DgF w0 P a n cap bs ins (S.set (nv bs (ni bs i)%S.length) (vd S (nv bs (ni bs i)%S.length))) outs (ni bs (ni bs i))):=by
 have HD0:Hid _:=Dy.box f hR hP k0
 have hx1:=fw hR.ys i
 have hx2:=fw hR.ys (ni bs i)
 have HSL:Hid (S.length=vs.length):=by show _=_;rw[<-hs,List.length_map]
 have HSV:Hid _:=hs
 have HKx:Hid _:=hk
 clear f hR k0 hs hk
 go_enter func42,ntmps42
 go_wp2_with fail
 generalize (w.alloc (.cells #[.slice a1 ins.length c1,.slice a2 vs.length c2,.slice a3 outs.length c3] 26)).alloc eZ=W0 at HD0 ⊢
 refine yai HD0.out.next ?_
 rintro e W1 ⟨rfl,D1⟩
 have HD1:Hid _:=D1
 clear D1 HD0
 go_wp2_with fail
 refine yai HD1.out.next ?_
 rintro e W2 ⟨rfl,D2⟩
 have HD:Hid _:=D2
 clear D2 HD1
 have h0:0<vs.length:=by have:=HSL.out;omega
 have hjm:nv bs (ni bs i)%vs.length<vs.length:=Nat.mod_lt _ h0
 have hj1:(nv bs (ni bs i):Int).tmod (vs.length:Int)=((nv bs (ni bs i)%vs.length:Nat):Int):=rfl
 have hj2:(nv bs (ni bs i):Int)%(vs.length:Int)=((nv bs (ni bs i)%vs.length:Nat):Int):=by rw[Int.natCast_emod]
 have HJE:Hid (nv bs (ni bs i)%vs.length=nv bs (ni bs i)%S.length):=by show _=_;rw[HSL.out]
 generalize nv bs (ni bs i)%vs.length=j at hjm hj1 hj2 HJE
 have hne:¬vs=[]:=λe=>by rw[e] at h0;exact Nat.lt_irrefl _ h0
 obtain⟨g,cp,eu,_,hg2,hat⟩:=gC HD.out.dg.r2 rfl hjm
 cases eu
 obtain⟨y0,y1,y2,y3,y4,y5⟩:=hat
 have hfz:∀o,W2.frozen? ⟨g,o,none⟩=false:=λo=>HD.out.dg.r2.frozenAt o
 have hkk:(vd vs j).k<18446744073709551616:=HD.out.dg.k _ (ia hjm)
 have HK:Hid _:=hkk
 clear hkk
 obtain⟨_,q0,q1,q2,_,_,_⟩:=HD.out.bx
 have hk':(nv bs i:Int)%12=8:=by have:=HKx.out;omega
 clear HKx
 have HD4:Hid _:=HD.out.setV (q:=5) (x:=.float .f64 4619567317775286272) (v':=⟨(vd vs j).op,(vd vs j).len,(vd vs j).a,(vd vs j).b,(vd vs j).c,4619567317775286272⟩) hjm xab rfl (show(4619567317775286272:Nat)<18446744073709551616 by decide)
 have HFin:Hid _:=HD4.out.finS (S':=S.set (nv bs (ni bs i)%S.length) (vd S (nv bs (ni bs i)%S.length))) (List.length_set ..) (by rw[List.map_set,HSV.out,<-HJE.out];exact congrArg (S.set j) (by rw[<-HSV.out,svd];rfl))
 have hz:=hfz (j*6+5)
 exact xba
theorem Gu (f:DG w w0.heap.size (.slice a1 ins.length c1) (.slice a2 vs.length c2) (.slice a3 outs.length c3) ins vs outs)(hR:RdF w P a n cap i bs)(hP:P<w0.heap.size)(k0:Kept P (P+1) w0 w)(hs:vs.map sv=S)(hn:vs.length<=100000)(h1:0<S.length)(hk:nv bs i%12=9):
  Calls prog 42 #[eR a1 ins.length c1 a2 vs.length c2 a3 outs.length c3,.pointer (some ⟨P,0,none⟩)] w (DgF w0 P a n cap bs ins (S.set (nv bs (ni bs i)%S.length) ({vd S (nv bs (ni bs i)%S.length) with op:=-1})) outs (ni bs (ni bs i))):=by
 have HD0:Hid _:=Dy.box f hR hP k0
 have hx1:=fw hR.ys i
 have hx2:=fw hR.ys (ni bs i)
 have HSL:Hid (S.length=vs.length):=by show _=_;rw[<-hs,List.length_map]
 have HSV:Hid _:=hs
 have HKx:Hid _:=hk
 clear f hR k0 hs hk
 go_enter func42,ntmps42
 go_wp2_with fail
 generalize (w.alloc (.cells #[.slice a1 ins.length c1,.slice a2 vs.length c2,.slice a3 outs.length c3] 26)).alloc eZ=W0 at HD0 ⊢
 refine yai HD0.out.next ?_
 rintro e W1 ⟨rfl,D1⟩
 have HD1:Hid _:=D1
 clear D1 HD0
 go_wp2_with fail
 refine yai HD1.out.next ?_
 rintro e W2 ⟨rfl,D2⟩
 have HD:Hid _:=D2
 clear D2 HD1
 have h0:0<vs.length:=by have:=HSL.out;omega
 have hjm:nv bs (ni bs i)%vs.length<vs.length:=Nat.mod_lt _ h0
 have hj1:(nv bs (ni bs i):Int).tmod (vs.length:Int)=((nv bs (ni bs i)%vs.length:Nat):Int):=rfl
 have hj2:(nv bs (ni bs i):Int)%(vs.length:Int)=((nv bs (ni bs i)%vs.length:Nat):Int):=by rw[Int.natCast_emod]
 have HJE:Hid (nv bs (ni bs i)%vs.length=nv bs (ni bs i)%S.length):=by show _=_;rw[HSL.out]
 generalize nv bs (ni bs i)%vs.length=j at hjm hj1 hj2 HJE
 have hne:¬vs=[]:=λe=>by rw[e] at h0;exact Nat.lt_irrefl _ h0
 obtain⟨g,cp,eu,_,hg2,hat⟩:=gC HD.out.dg.r2 rfl hjm
 cases eu
 obtain⟨y0,y1,y2,y3,y4,y5⟩:=hat
 have hfz:∀o,W2.frozen? ⟨g,o,none⟩=false:=λo=>HD.out.dg.r2.frozenAt o
 have hkk:(vd vs j).k<18446744073709551616:=HD.out.dg.k _ (ia hjm)
 have HK:Hid _:=hkk
 clear hkk
 obtain⟨_,q0,q1,q2,_,_,_⟩:=HD.out.bx
 have hk':(nv bs i:Int)%12=9:=by have:=HKx.out;omega
 clear HKx
 have HD4:Hid _:=HD.out.setV (q:=0) (x:=.int .i64 (-1)) (v':=⟨-1,(vd vs j).len,(vd vs j).a,(vd vs j).b,(vd vs j).c,(vd vs j).k⟩) hjm xab rfl HK.out
 have HFin:Hid _:=HD4.out.finS (S':=S.set (nv bs (ni bs i)%S.length) ({vd S (nv bs (ni bs i)%S.length) with op:=-1})) (List.length_set ..) (by rw[List.map_set,HSV.out,<-HJE.out];exact congrArg (S.set j) (by rw[<-HSV.out,svd];rfl))
 exact xcw
theorem Gv (f:DG w w0.heap.size (.slice a1 ins.length c1) (.slice a2 vs.length c2) (.slice a3 outs.length c3) ins vs outs)(hR:RdF w P a n cap i bs)(hP:P<w0.heap.size)(k0:Kept P (P+1) w0 w)(hs:vs.map sv=S)(hn:vs.length<=100000)(h1:0<S.length)(hl3:outs.length<=1000)(hk:nv bs i%12=5):
  Calls prog 42 #[eR a1 ins.length c1 a2 vs.length c2 a3 outs.length c3,.pointer (some ⟨P,0,none⟩)] w (DgF w0 P a n cap bs ins S (outs++[(S.length:Int)-(nv bs (ni bs i):Int)%2]) (ni bs (ni bs i))):=by
 have HD0:Hid _:=Dy.box f hR hP k0
 have hx1:=fw hR.ys i
 have hx2:=fw hR.ys (ni bs i)
 have HSL:Hid (S.length=vs.length):=by show _=_;rw[<-hs,List.length_map]
 have HSV:Hid _:=hs
 have HKx:Hid _:=hk
 clear f hR k0 hs hk
 go_enter func42,ntmps42
 go_wp2_with fail
 generalize (w.alloc (.cells #[.slice a1 ins.length c1,.slice a2 vs.length c2,.slice a3 outs.length c3] 26)).alloc eZ=W0 at HD0 ⊢
 refine yai HD0.out.next ?_
 rintro e W1 ⟨rfl,D1⟩
 have HD1:Hid _:=D1
 clear D1 HD0
 go_wp2_with fail
 refine yai HD1.out.next ?_
 rintro e W2 ⟨rfl,D2⟩
 have HD:Hid _:=D2
 clear D2 HD1
 have h0:0<vs.length:=by have:=HSL.out;omega
 have hjm:nv bs (ni bs i)%vs.length<vs.length:=Nat.mod_lt _ h0
 have hj1:(nv bs (ni bs i):Int).tmod (vs.length:Int)=((nv bs (ni bs i)%vs.length:Nat):Int):=rfl
 have hj2:(nv bs (ni bs i):Int)%(vs.length:Int)=((nv bs (ni bs i)%vs.length:Nat):Int):=by rw[Int.natCast_emod]
 have HJE:Hid (nv bs (ni bs i)%vs.length=nv bs (ni bs i)%S.length):=by show _=_;rw[HSL.out]
 generalize nv bs (ni bs i)%vs.length=j at hjm hj1 hj2 HJE
 have hne:¬vs=[]:=λe=>by rw[e] at h0;exact Nat.lt_irrefl _ h0
 obtain⟨g,cp,eu,_,hg2,hat⟩:=gC HD.out.dg.r2 rfl hjm
 cases eu
 obtain⟨y0,y1,y2,y3,y4,y5⟩:=hat
 have hfz:∀o,W2.frozen? ⟨g,o,none⟩=false:=λo=>HD.out.dg.r2.frozenAt o
 have hkk:(vd vs j).k<18446744073709551616:=HD.out.dg.k _ (ia hjm)
 have HK:Hid _:=hkk
 clear hkk
 obtain⟨_,q0,q1,q2,_,_,_⟩:=HD.out.bx
 have hk':(nv bs i:Int)%12=5:=by have:=HKx.out;omega
 clear HKx
 obtain⟨y,hy⟩:∃y:Int,(vs.length:Int)-(nv bs (ni bs i):Int)%2=y:=⟨_,rfl⟩
 have HY:Hid ((S.length:Int)-(nv bs (ni bs i):Int)%2=y):=by show _=_;rw[HSL.out];exact hy
 have hyb:-10<=y/\y<=100000:=xaa
 have D3:=HD.out.keep (ez 0 0 W2 (.cells #[.int .i64 y] 3))
 have hr3:=D3.dg.r3
 have HD3:Hid _:=D3
 clear D3
 go_upto_region 31 with (first|(at_builtin;refine fk _ rfl _ _ rfl w0.heap.size _ outs rfl hr3 ⟨W2.heap.size,0,none⟩ (y) rfl xac xaa HD3.out.dg.sz ?_;intro g9 cap9 n9 w9 hn9 hown9 hc9 hat9;obtain⟨hb9,hd4⟩:=HD3.out.outs_ hc9 hown9 hn9 hat9;have HD4:Hid _:=hd4;have HFin:Hid _:=hd4.finS rfl HSV.out;clear hd4;replace hn9:Hid _:=hn9;obtain⟨_,z0,z1,z2,f0,f1,f2⟩:=hb9))
 obtain⟨_,t0,t1,t2,_,_,_⟩:=HD4.out.bx
 obtain⟨_,r0,r1,r2,rf0,rf1,rf2⟩:=HD4.out.rs
 go_wp2_with fail
 obtain⟨p0,p1,p2⟩:=eY _ (w.heap.size+1) _ _ _ r0 r1 r2 (.slice a1 ins.length c1) (.slice (some ⟨g,0,none⟩) vs.length c2) (.slice (some ⟨g9,0,none⟩) n9 cap9)
 exact yay (v:=eR a1 ins.length c1 (some ⟨g,0,none⟩) vs.length c2 (some ⟨g9,0,none⟩) n9 cap9) (by simp[results,results42,go_sem,p0,p1,p2]) rfl (by rw[HY.out];exact HFin.out)
theorem Gx (f:DG w w0.heap.size (.slice a1 ins.length c1) (.slice a2 vs.length c2) (.slice a3 outs.length c3) ins vs outs)(hR:RdF w P a n cap i bs)(hP:P<w0.heap.size)(k0:Kept P (P+1) w0 w)(hs:vs.map sv=S)(hn:vs.length<=100000)(h1:0<S.length)(hl3:outs.length<=1000)(hk:nv bs i%12=7):
  Calls prog 42 #[eR a1 ins.length c1 a2 vs.length c2 a3 outs.length c3,.pointer (some ⟨P,0,none⟩)] w (DgF w0 P a n cap bs ins S (outs++[-1]) (ni bs (ni bs i))):=by
 have HD0:Hid _:=Dy.box f hR hP k0
 have hx1:=fw hR.ys i
 have hx2:=fw hR.ys (ni bs i)
 have HSL:Hid (S.length=vs.length):=by show _=_;rw[<-hs,List.length_map]
 have HSV:Hid _:=hs
 have HKx:Hid _:=hk
 clear f hR k0 hs hk
 go_enter func42,ntmps42
 go_wp2_with fail
 generalize (w.alloc (.cells #[.slice a1 ins.length c1,.slice a2 vs.length c2,.slice a3 outs.length c3] 26)).alloc eZ=W0 at HD0 ⊢
 refine yai HD0.out.next ?_
 rintro e W1 ⟨rfl,D1⟩
 have HD1:Hid _:=D1
 clear D1 HD0
 go_wp2_with fail
 refine yai HD1.out.next ?_
 rintro e W2 ⟨rfl,D2⟩
 have HD:Hid _:=D2
 clear D2 HD1
 have h0:0<vs.length:=by have:=HSL.out;omega
 have hjm:nv bs (ni bs i)%vs.length<vs.length:=Nat.mod_lt _ h0
 have hj1:(nv bs (ni bs i):Int).tmod (vs.length:Int)=((nv bs (ni bs i)%vs.length:Nat):Int):=rfl
 have hj2:(nv bs (ni bs i):Int)%(vs.length:Int)=((nv bs (ni bs i)%vs.length:Nat):Int):=by rw[Int.natCast_emod]
 have HJE:Hid (nv bs (ni bs i)%vs.length=nv bs (ni bs i)%S.length):=by show _=_;rw[HSL.out]
 generalize nv bs (ni bs i)%vs.length=j at hjm hj1 hj2 HJE
 have hne:¬vs=[]:=λe=>by rw[e] at h0;exact Nat.lt_irrefl _ h0
 obtain⟨g,cp,eu,_,hg2,hat⟩:=gC HD.out.dg.r2 rfl hjm
 cases eu
 obtain⟨y0,y1,y2,y3,y4,y5⟩:=hat
 have hfz:∀o,W2.frozen? ⟨g,o,none⟩=false:=λo=>HD.out.dg.r2.frozenAt o
 have hkk:(vd vs j).k<18446744073709551616:=HD.out.dg.k _ (ia hjm)
 have HK:Hid _:=hkk
 clear hkk
 obtain⟨_,q0,q1,q2,_,_,_⟩:=HD.out.bx
 have hk':(nv bs i:Int)%12=7:=by have:=HKx.out;omega
 clear HKx
 have D3:=HD.out.keep (ez 0 0 W2 (.cells #[.int .i64 (-1)] 3))
 have hr3:=D3.dg.r3
 have HD3:Hid _:=D3
 clear D3
 go_upto_region 31 with (first|(at_builtin;refine fk _ rfl _ _ rfl w0.heap.size _ outs rfl hr3 ⟨W2.heap.size,0,none⟩ ((-1)) rfl xac xaa HD3.out.dg.sz ?_;intro g9 cap9 n9 w9 hn9 hown9 hc9 hat9;obtain⟨hb9,hd4⟩:=HD3.out.outs_ hc9 hown9 hn9 hat9;have HD4:Hid _:=hd4;have HFin:Hid _:=hd4.finS rfl HSV.out;clear hd4;replace hn9:Hid _:=hn9;obtain⟨_,z0,z1,z2,f0,f1,f2⟩:=hb9))
 obtain⟨_,t0,t1,t2,_,_,_⟩:=HD4.out.bx
 obtain⟨_,r0,r1,r2,rf0,rf1,rf2⟩:=HD4.out.rs
 go_wp2_with fail
 obtain⟨p0,p1,p2⟩:=eY _ (w.heap.size+1) _ _ _ r0 r1 r2 (.slice a1 ins.length c1) (.slice (some ⟨g,0,none⟩) vs.length c2) (.slice (some ⟨g9,0,none⟩) n9 cap9)
 exact yay (v:=eR a1 ins.length c1 (some ⟨g,0,none⟩) vs.length c2 (some ⟨g9,0,none⟩) n9 cap9) (by simp[results,results42,go_sem,p0,p1,p2]) rfl HFin.out
theorem Gy (f:DG w w0.heap.size (.slice a1 ins.length c1) (.slice a2 vs.length c2) (.slice a3 outs.length c3) ins vs outs)(hR:RdF w P a n cap i bs)(hP:P<w0.heap.size)(k0:Kept P (P+1) w0 w)(hs:vs.map sv=S)(hn:vs.length<=100000)(h1:0<S.length)(hl3:ins.length<=1000)(hk:nv bs i%12=6):
  Calls prog 42 #[eR a1 ins.length c1 a2 vs.length c2 a3 outs.length c3,.pointer (some ⟨P,0,none⟩)] w (DgF w0 P a n cap bs (ins++[(nv bs (ni bs i):Int)%3*500]) S outs (ni bs (ni bs i))):=by
 have HD0:Hid _:=Dy.box f hR hP k0
 have hx1:=fw hR.ys i
 have hx2:=fw hR.ys (ni bs i)
 have HSL:Hid (S.length=vs.length):=by show _=_;rw[<-hs,List.length_map]
 have HSV:Hid _:=hs
 have HKx:Hid _:=hk
 clear f hR k0 hs hk
 go_enter func42,ntmps42
 go_wp2_with fail
 generalize (w.alloc (.cells #[.slice a1 ins.length c1,.slice a2 vs.length c2,.slice a3 outs.length c3] 26)).alloc eZ=W0 at HD0 ⊢
 refine yai HD0.out.next ?_
 rintro e W1 ⟨rfl,D1⟩
 have HD1:Hid _:=D1
 clear D1 HD0
 go_wp2_with fail
 refine yai HD1.out.next ?_
 rintro e W2 ⟨rfl,D2⟩
 have HD:Hid _:=D2
 clear D2 HD1
 have h0:0<vs.length:=by have:=HSL.out;omega
 have hjm:nv bs (ni bs i)%vs.length<vs.length:=Nat.mod_lt _ h0
 have hj1:(nv bs (ni bs i):Int).tmod (vs.length:Int)=((nv bs (ni bs i)%vs.length:Nat):Int):=rfl
 have hj2:(nv bs (ni bs i):Int)%(vs.length:Int)=((nv bs (ni bs i)%vs.length:Nat):Int):=by rw[Int.natCast_emod]
 have HJE:Hid (nv bs (ni bs i)%vs.length=nv bs (ni bs i)%S.length):=by show _=_;rw[HSL.out]
 generalize nv bs (ni bs i)%vs.length=j at hjm hj1 hj2 HJE
 have hne:¬vs=[]:=λe=>by rw[e] at h0;exact Nat.lt_irrefl _ h0
 obtain⟨g,cp,eu,_,hg2,hat⟩:=gC HD.out.dg.r2 rfl hjm
 cases eu
 obtain⟨y0,y1,y2,y3,y4,y5⟩:=hat
 have hfz:∀o,W2.frozen? ⟨g,o,none⟩=false:=λo=>HD.out.dg.r2.frozenAt o
 have hkk:(vd vs j).k<18446744073709551616:=HD.out.dg.k _ (ia hjm)
 have HK:Hid _:=hkk
 clear hkk
 obtain⟨_,q0,q1,q2,_,_,_⟩:=HD.out.bx
 have hk':(nv bs i:Int)%12=6:=by have:=HKx.out;omega
 clear HKx
 obtain⟨y,hy⟩:∃y:Int,(nv bs (ni bs i):Int)%3*500=y:=⟨_,rfl⟩
 have HY:Hid _:=hy
 have D3:=HD.out.keep (ez 0 0 W2 (.cells #[.int .i64 y] 3))
 have hr3:=D3.dg.r1
 have HD3:Hid _:=D3
 clear D3
 go_upto_region 31 with (first|(at_builtin;refine fk _ rfl _ _ rfl w0.heap.size _ ins rfl hr3 ⟨W2.heap.size,0,none⟩ (y) rfl xac xaa HD3.out.dg.sz ?_;intro g9 cap9 n9 w9 hn9 hown9 hc9 hat9;obtain⟨hb9,hd4⟩:=HD3.out.ins_ hc9 hown9 hn9 hat9;have HD4:Hid _:=hd4;have HFin:Hid _:=hd4.finS rfl HSV.out;clear hd4;replace hn9:Hid _:=hn9;obtain⟨_,z0,z1,z2,f0,f1,f2⟩:=hb9))
 obtain⟨_,t0,t1,t2,_,_,_⟩:=HD4.out.bx
 obtain⟨_,r0,r1,r2,rf0,rf1,rf2⟩:=HD4.out.rs
 go_wp2_with fail
 obtain⟨p0,p1,p2⟩:=eY _ (w.heap.size+1) _ _ _ r0 r1 r2 (.slice (some ⟨g9,0,none⟩) n9 cap9) (.slice (some ⟨g,0,none⟩) vs.length c2) (.slice a3 outs.length c3)
 exact yay (v:=eR (some ⟨g9,0,none⟩) n9 cap9 (some ⟨g,0,none⟩) vs.length c2 a3 outs.length c3) (by simp[results,results42,go_sem,p0,p1,p2]) rfl (by rw[HY.out];exact HFin.out)
theorem Gz (f:DG w w0.heap.size (.slice a1 ins.length c1) (.slice a2 vs.length c2) (.slice a3 outs.length c3) ins vs outs)(hR:RdF w P a n cap i bs)(hP:P<w0.heap.size)(k0:Kept P (P+1) w0 w)(hs:vs.map sv=S)(_hn:vs.length<=100000)(hk:S.length=0):
  Calls prog 42 #[eR a1 ins.length c1 a2 vs.length c2 a3 outs.length c3,.pointer (some ⟨P,0,none⟩)] w (DgF w0 P a n cap bs ins S outs (ni bs (ni bs i))):=by
 have HD0:Hid _:=Dy.box f hR hP k0
 have hx1:=fw hR.ys i
 have hx2:=fw hR.ys (ni bs i)
 have HSL:Hid (S.length=vs.length):=by show _=_;rw[<-hs,List.length_map]
 have HSV:Hid _:=hs
 have HKx:Hid _:=hk
 clear f hR k0 hs hk
 go_enter func42,ntmps42
 go_wp2_with fail
 generalize (w.alloc (.cells #[.slice a1 ins.length c1,.slice a2 vs.length c2,.slice a3 outs.length c3] 26)).alloc eZ=W0 at HD0 ⊢
 refine yai HD0.out.next ?_
 rintro e W1 ⟨rfl,D1⟩
 have HD1:Hid _:=D1
 clear D1 HD0
 go_wp2_with fail
 refine yai HD1.out.next ?_
 rintro e W2 ⟨rfl,D2⟩
 have HD:Hid _:=D2
 clear D2 HD1
 have hz:vs.length=0:=by have:=HKx.out;have:=HSL.out;omega
 have HFin:Hid _:=HD.out.fin HSV.out
 obtain⟨_,q0,q1,q2,_,_,_⟩:=HD.out.bx
 obtain⟨_,r0,r1,r2,rf0,rf1,rf2⟩:=HD.out.rs
 generalize vs.length=l at hz HFin q0 q1 q2
 have hz':(l:Int)<=0:=xaa
 clear hz
 go_wp2_with fail
 obtain⟨p0,p1,p2⟩:=eY _ (w.heap.size+1) _ _ _ r0 r1 r2 (.slice a1 ins.length c1) (.slice a2 l c2) (.slice a3 outs.length c3)
 exact yay (v:=eR a1 ins.length c1 a2 l c2 a3 outs.length c3) (by simp[results,results42,go_sem,p0,p1,p2]) rfl HFin.out
theorem Dg (f:DG w w0.heap.size (.slice a1 ins.length c1) (.slice a2 vs.length c2) (.slice a3 outs.length c3) ins vs outs)(hR:RdF w P a n cap i bs)(hP:P<w0.heap.size)(k0:Kept P (P+1) w0 w)(hs:vs.map sv=S)(hn:vs.length<=100000)(h1:0<S.length)(hl3:outs.length<=1000)(hk:nv bs i%12=10):
  Calls prog 42 #[eR a1 ins.length c1 a2 vs.length c2 a3 outs.length c3,.pointer (some ⟨P,0,none⟩)] w (DgF w0 P a n cap bs ins S (outs++List.replicate (50+nv bs (ni bs i)%2-outs.length) ((((nv bs (ni bs i)%S.length:Nat)):Int))) (ni bs (ni bs i))):=by
 have HD0:Hid _:=Dy.box f hR hP k0
 have hx1:=fw hR.ys i
 have hx2:=fw hR.ys (ni bs i)
 have HSL:Hid (S.length=vs.length):=by show _=_;rw[<-hs,List.length_map]
 have HSV:Hid _:=hs
 have HKx:Hid _:=hk
 clear f hR k0 hs hk
 go_enter func42,ntmps42
 go_wp2_with fail
 generalize (w.alloc (.cells #[.slice a1 ins.length c1,.slice a2 vs.length c2,.slice a3 outs.length c3] 26)).alloc eZ=W0 at HD0 ⊢
 refine yai HD0.out.next ?_
 rintro e W1 ⟨rfl,D1⟩
 have HD1:Hid _:=D1
 clear D1 HD0
 go_wp2_with fail
 refine yai HD1.out.next ?_
 rintro e W2 ⟨rfl,D2⟩
 have HD:Hid _:=D2
 clear D2 HD1
 have h0:0<vs.length:=by have:=HSL.out;omega
 have hjm:nv bs (ni bs i)%vs.length<vs.length:=Nat.mod_lt _ h0
 have hj1:(nv bs (ni bs i):Int).tmod (vs.length:Int)=((nv bs (ni bs i)%vs.length:Nat):Int):=rfl
 have hj2:(nv bs (ni bs i):Int)%(vs.length:Int)=((nv bs (ni bs i)%vs.length:Nat):Int):=by rw[Int.natCast_emod]
 have HJE:Hid (nv bs (ni bs i)%vs.length=nv bs (ni bs i)%S.length):=by show _=_;rw[HSL.out]
 generalize nv bs (ni bs i)%vs.length=j at hjm hj1 hj2 HJE
 have hne:¬vs=[]:=λe=>by rw[e] at h0;exact Nat.lt_irrefl _ h0
 obtain⟨g,cp,eu,_,hg2,hat⟩:=gC HD.out.dg.r2 rfl hjm
 cases eu
 obtain⟨y0,y1,y2,y3,y4,y5⟩:=hat
 have hfz:∀o,W2.frozen? ⟨g,o,none⟩=false:=λo=>HD.out.dg.r2.frozenAt o
 have hkk:(vd vs j).k<18446744073709551616:=HD.out.dg.k _ (ia hjm)
 have HK:Hid _:=hkk
 clear hkk
 obtain⟨_,q0,q1,q2,_,_,_⟩:=HD.out.bx
 have hk':(nv bs i:Int)%12=10:=by have:=HKx.out;omega
 clear HKx
 have hlim:(50:Int)+(nv bs (ni bs i):Int)%2=((50+nv bs (ni bs i)%2:Nat):Int):=xaa
 have hlb:50+nv bs (ni bs i)%2<=60:=xaa
 have HPost:Hid (∀(lm':Nat) e w',lm'=50+nv bs (ni bs i)%2->DgF w0 P a n cap bs ins S (outs++List.replicate (lm'-outs.length) ((j:Int))) (ni bs (ni bs i)) e w'->DgF w0 P a n cap bs ins S (outs++List.replicate (50+nv bs (ni bs i)%2-outs.length) ((((nv bs (ni bs i)%S.length:Nat)):Int))) (ni bs (ni bs i)) e w'):=λlm' e w' he hd=>by rw[<-he];rw[<-HJE.out];exact hd
 generalize hlm:50+nv bs (ni bs i)%2=lm at hlim hlb
 have HLme:Hid (lm=50+nv bs (ni bs i)%2):=hlm.symm
 clear hlm
 have HLI:Hid _:=hlim
 have HE:Hid (Dy w0 W2 P a n cap (ni bs (ni bs i)) bs (w.heap.size+1) w.heap.size (.slice a1 ins.length c1) (.slice (some ⟨g,0,none⟩) vs.length c2) (.slice a3 (outs++List.replicate 0 ((j:Int))).length c3) ins vs (outs++List.replicate 0 ((j:Int)))):=by rw[List.replicate_zero,List.append_nil];exact HD.out
 go_wp2_with fail
 rw[show((vs.length:Int)==0)=false from yam xaa]
 clear q0 q1 q2 HD y0 y1 y2 y3 y4 y5 hfz
 go_loopg [] lm (λq W=>∃(kk:Nat) (aa:Option Addr) (cc:Nat),kk<=lm-outs.length/\lm-outs.length-kk<=q/\Hid (Dy w0 W P a n cap (ni bs (ni bs i)) bs (w.heap.size+1) w.heap.size (.slice a1 ins.length c1) (.slice (some ⟨g,0,none⟩) vs.length c2) (.slice aa (outs++List.replicate kk ((j:Int))).length cc) ins vs (outs++List.replicate kk ((j:Int)))))
 case atStart=>exact⟨0,a3,c3,Nat.zero_le _,by omega,HE.out⟩
 case round=>
  obtain⟨kk,aa,cc,hkk,hq,hD⟩:=hrel
  clear HE
  have HXL:Hid ((outs++List.replicate kk ((j:Int))).length=outs.length+kk):=by show _=_;rw[yak,List.length_replicate]
  have hD':=hD.out
  have HXs:Hid (∃xs,xs=outs++List.replicate kk ((j:Int))):=⟨_,rfl⟩
  obtain⟨xs,hxs⟩:=HXs.out
  have HX:Hid _:=hxs
  rw[<-hxs] at hD' HXL
  have HD:Hid _:=hD'
  clear hD hD' hxs HXs
  generalize hl:xs.length=l at HD HXL
  have HLl:Hid _:=hl
  have hlk:l=outs.length+kk:=HXL.out
  have hlb2:l<=2000:=xaa
  have HLK:Hid _:=hlk
  clear hl
  have hlim:=HLI.out
  obtain⟨_,q0,q1,q2,_,_,_⟩:=HD.out.bx
  by_cases hlt:l<lm
  ·have D3:=HD.out.keep (ez 0 0 wr (.cells #[.int .i64 ((j:Int))] 3))
   have hr3:=D3.dg.r3
   have HD3:Hid _:=D3
   clear D3 hlk
   go_upto_region 28 with fail
   go_wp2_with (first|(at_builtin;refine fk _ rfl _ _ rfl w0.heap.size _ xs rfl hr3 ⟨wr.heap.size,0,none⟩ ((j:Int)) rfl xac (by have:=HLl.out;omega) HD3.out.dg.sz ?_;intro g9 cap9 n9 w9 hn9 hown9 hc9 hat9;obtain⟨hb9,hd4⟩:=HD3.out.outs_ hc9 hown9 hn9 hat9;have HD4:Hid _:=hd4;clear hd4;replace hn9:Hid _:=hn9;obtain⟨_,z0,z1,z2,f0,f1,f2⟩:=hb9))
   go_roundg (gk-1)
   case measure=>have:=HLK.out;omega
   case rel=>
    have:=HLK.out
    refine⟨kk+1,some ⟨g9,0,none⟩,cap9,by omega,by omega,?_⟩
    have e:outs++List.replicate (kk+1) ((j:Int))=xs++[(j:Int)]:=by rw[HX.out,List.append_assoc,List.replicate_succ']
    have h9:=HD4.out
    rw[hn9.out] at h9 ⊢
    rw[e]
    exact h9
  ·have HF:Hid _:=HD.out.finS rfl HSV.out
   have ek:kk=lm-outs.length:=xaa
   have HXX:Hid (xs=outs++List.replicate (lm-outs.length) ((j:Int))):=by rw[<-ek];exact HX.out
   obtain⟨_,r0,r1,r2,rf0,rf1,rf2⟩:=HD.out.rs
   clear ek hlk
   go_wp2_with fail
   obtain⟨p0,p1,p2⟩:=eY _ (w.heap.size+1) _ _ _ r0 r1 r2 (.slice a1 ins.length c1) (.slice (some ⟨g,0,none⟩) vs.length c2) (.slice aa l cc)
   exact yay (v:=eR a1 ins.length c1 (some ⟨g,0,none⟩) vs.length c2 aa l cc) (by simp[results,results42,go_sem,p0,p1,p2]) rfl (HPost.out lm _ _ HLme.out (by rw[<-HXX.out];exact HF.out))
theorem Dh (f:DG w w0.heap.size (.slice a1 ins.length c1) (.slice a2 vs.length c2) (.slice a3 outs.length c3) ins vs outs)(hR:RdF w P a n cap i bs)(hP:P<w0.heap.size)(k0:Kept P (P+1) w0 w)(hs:vs.map sv=S)(hn:vs.length<=100000)(h1:0<S.length)(hl3:ins.length<=1000)(hk:nv bs i%12=11):
  Calls prog 42 #[eR a1 ins.length c1 a2 vs.length c2 a3 outs.length c3,.pointer (some ⟨P,0,none⟩)] w (DgF w0 P a n cap bs (ins++List.replicate (20+nv bs (ni bs i)%2-ins.length) (2)) S outs (ni bs (ni bs i))):=by
 have HD0:Hid _:=Dy.box f hR hP k0
 have hx1:=fw hR.ys i
 have hx2:=fw hR.ys (ni bs i)
 have HSL:Hid (S.length=vs.length):=by show _=_;rw[<-hs,List.length_map]
 have HSV:Hid _:=hs
 have HKx:Hid _:=hk
 clear f hR k0 hs hk
 go_enter func42,ntmps42
 go_wp2_with fail
 generalize (w.alloc (.cells #[.slice a1 ins.length c1,.slice a2 vs.length c2,.slice a3 outs.length c3] 26)).alloc eZ=W0 at HD0 ⊢
 refine yai HD0.out.next ?_
 rintro e W1 ⟨rfl,D1⟩
 have HD1:Hid _:=D1
 clear D1 HD0
 go_wp2_with fail
 refine yai HD1.out.next ?_
 rintro e W2 ⟨rfl,D2⟩
 have HD:Hid _:=D2
 clear D2 HD1
 have h0:0<vs.length:=by have:=HSL.out;omega
 have hjm:nv bs (ni bs i)%vs.length<vs.length:=Nat.mod_lt _ h0
 have hj1:(nv bs (ni bs i):Int).tmod (vs.length:Int)=((nv bs (ni bs i)%vs.length:Nat):Int):=rfl
 have hj2:(nv bs (ni bs i):Int)%(vs.length:Int)=((nv bs (ni bs i)%vs.length:Nat):Int):=by rw[Int.natCast_emod]
 have HJE:Hid (nv bs (ni bs i)%vs.length=nv bs (ni bs i)%S.length):=by show _=_;rw[HSL.out]
 generalize nv bs (ni bs i)%vs.length=j at hjm hj1 hj2 HJE
 have hne:¬vs=[]:=λe=>by rw[e] at h0;exact Nat.lt_irrefl _ h0
 obtain⟨g,cp,eu,_,hg2,hat⟩:=gC HD.out.dg.r2 rfl hjm
 cases eu
 obtain⟨y0,y1,y2,y3,y4,y5⟩:=hat
 have hfz:∀o,W2.frozen? ⟨g,o,none⟩=false:=λo=>HD.out.dg.r2.frozenAt o
 have hkk:(vd vs j).k<18446744073709551616:=HD.out.dg.k _ (ia hjm)
 have HK:Hid _:=hkk
 clear hkk
 obtain⟨_,q0,q1,q2,_,_,_⟩:=HD.out.bx
 have hk':(nv bs i:Int)%12=11:=by have:=HKx.out;omega
 clear HKx
 have hlim:(20:Int)+(nv bs (ni bs i):Int)%2=((20+nv bs (ni bs i)%2:Nat):Int):=xaa
 have hlb:20+nv bs (ni bs i)%2<=60:=xaa
 have HPost:Hid (∀(lm':Nat) e w',lm'=20+nv bs (ni bs i)%2->DgF w0 P a n cap bs (ins++List.replicate (lm'-ins.length) (2)) S outs (ni bs (ni bs i)) e w'->DgF w0 P a n cap bs (ins++List.replicate (20+nv bs (ni bs i)%2-ins.length) (2)) S outs (ni bs (ni bs i)) e w'):=λlm' e w' he hd=>by rw[<-he];exact hd
 generalize hlm:20+nv bs (ni bs i)%2=lm at hlim hlb
 have HLme:Hid (lm=20+nv bs (ni bs i)%2):=hlm.symm
 clear hlm
 have HLI:Hid _:=hlim
 have HE:Hid (Dy w0 W2 P a n cap (ni bs (ni bs i)) bs (w.heap.size+1) w.heap.size (.slice a1 (ins++List.replicate 0 (2)).length c1) (.slice (some ⟨g,0,none⟩) vs.length c2) (.slice a3 outs.length c3) (ins++List.replicate 0 (2)) vs outs):=by rw[List.replicate_zero,List.append_nil];exact HD.out
 go_wp2_with fail
 rw[show((vs.length:Int)==0)=false from yam xaa]
 clear q0 q1 q2 HD y0 y1 y2 y3 y4 y5 hfz
 go_loopg [] lm (λq W=>∃(kk:Nat) (aa:Option Addr) (cc:Nat),kk<=lm-ins.length/\lm-ins.length-kk<=q/\Hid (Dy w0 W P a n cap (ni bs (ni bs i)) bs (w.heap.size+1) w.heap.size (.slice aa (ins++List.replicate kk (2)).length cc) (.slice (some ⟨g,0,none⟩) vs.length c2) (.slice a3 outs.length c3) (ins++List.replicate kk (2)) vs outs))
 case atStart=>exact⟨0,a1,c1,Nat.zero_le _,by omega,HE.out⟩
 case round=>
  obtain⟨kk,aa,cc,hkk,hq,hD⟩:=hrel
  clear HE
  have HXL:Hid ((ins++List.replicate kk (2)).length=ins.length+kk):=by show _=_;rw[yak,List.length_replicate]
  have hD':=hD.out
  have HXs:Hid (∃xs,xs=ins++List.replicate kk (2)):=⟨_,rfl⟩
  obtain⟨xs,hxs⟩:=HXs.out
  have HX:Hid _:=hxs
  rw[<-hxs] at hD' HXL
  have HD:Hid _:=hD'
  clear hD hD' hxs HXs
  generalize hl:xs.length=l at HD HXL
  have HLl:Hid _:=hl
  have hlk:l=ins.length+kk:=HXL.out
  have hlb2:l<=2000:=xaa
  have HLK:Hid _:=hlk
  clear hl
  have hlim:=HLI.out
  obtain⟨_,q0,q1,q2,_,_,_⟩:=HD.out.bx
  by_cases hlt:l<lm
  ·have D3:=HD.out.keep (ez 0 0 wr (.cells #[.int .i64 (2)] 3))
   have hr3:=D3.dg.r1
   have HD3:Hid _:=D3
   clear D3 hlk
   go_upto_region 30 with fail
   go_wp2_with (first|(at_builtin;refine fk _ rfl _ _ rfl w0.heap.size _ xs rfl hr3 ⟨wr.heap.size,0,none⟩ (2) rfl xac (by have:=HLl.out;omega) HD3.out.dg.sz ?_;intro g9 cap9 n9 w9 hn9 hown9 hc9 hat9;obtain⟨hb9,hd4⟩:=HD3.out.ins_ hc9 hown9 hn9 hat9;have HD4:Hid _:=hd4;clear hd4;replace hn9:Hid _:=hn9;obtain⟨_,z0,z1,z2,f0,f1,f2⟩:=hb9))
   go_roundg (gk-1)
   case measure=>have:=HLK.out;omega
   case rel=>
    have:=HLK.out
    refine⟨kk+1,some ⟨g9,0,none⟩,cap9,by omega,by omega,?_⟩
    have e:ins++List.replicate (kk+1) (2)=xs++[2]:=by rw[HX.out,List.append_assoc,List.replicate_succ']
    have h9:=HD4.out
    rw[hn9.out] at h9 ⊢
    rw[e]
    exact h9
  ·have HF:Hid _:=HD.out.finS rfl HSV.out
   have ek:kk=lm-ins.length:=xaa
   have HXX:Hid (xs=ins++List.replicate (lm-ins.length) (2)):=by rw[<-ek];exact HX.out
   obtain⟨_,r0,r1,r2,rf0,rf1,rf2⟩:=HD.out.rs
   clear ek hlk
   go_wp2_with fail
   obtain⟨p0,p1,p2⟩:=eY _ (w.heap.size+1) _ _ _ r0 r1 r2 (.slice aa l cc) (.slice (some ⟨g,0,none⟩) vs.length c2) (.slice a3 outs.length c3)
   exact yay (v:=eR aa l cc (some ⟨g,0,none⟩) vs.length c2 a3 outs.length c3) (by simp[results,results42,go_sem,p0,p1,p2]) rfl (HPost.out lm _ _ HLme.out (by rw[<-HXX.out];exact HF.out))
