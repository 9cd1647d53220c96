import Derived.Test.YtnlffngpnoodkaaGreatP48
import Derived.Test.YtnlffngpnoodkaaGreatP47
import Derived.Test.YtnlffngpnoodkaaGreatP43
namespace Go.Proofs.YtnlffngpnoodkaaGreat
set_option maxRecDepth 1000000
set_option maxHeartbeats 0
section
open Go.RowKit Flt
attribute [local go_sem] ic ib ia
theorem BT (w:World)(_lo g1 g2 g3 n1 c1 n2 c2 n3 c3:Nat)(s x:Nat)(ins:List Int)(vs:List Vl)(outs:List Int)(f:GN w g1 g2 g3 n2 ins vs outs)(e1:ins.length=n1)(e3:outs.length=n3)(l1:n1<=1000000)(l2:n2<=2000)(l3:n3<=1000000)(hok:(List.range n2).all (okV ins vs)=true)(hc5:ig vs<=50000)(hs:s<n2)(hx:x<n2)(hwh:∀k,whO (vs.getD k Vl.zero).op):
  Calls Tryz.prog 26 #[ip (some ⟨g1,0,none⟩) n1 c1 (some ⟨g2,0,none⟩) n2 c2 (some ⟨g3,0,none⟩) n3 c3,.int .i64 (s:Int),.int .i64 (x:Int)] w λe w'=>Do w w' n1 n3 ins outs (grM vs s x) e/\Kept 0 0 w w':=by
 cases ha:(iS vs x (s-x)).getD s false
 ·exact un w _lo g1 g2 g3 n1 c1 n2 c2 n3 c3 s x ins vs outs f e1 e3 l1 l2 l3 hok hc5 hs hx ha
 ·exact uE w _lo g1 g2 g3 n1 c1 n2 c2 n3 c3 s x ins vs outs f e1 e3 l1 l2 l3 hok hc5 hs hx ha hwh
theorem rj (w:World)(_lo g1 g2 g3 n1 c1 n2 c2 n3 c3:Nat)(s x:Nat)(ins:List Int)(vs:List Vl)(outs:List Int)(f:GN w g1 g2 g3 n2 ins vs outs)(e1:ins.length=n1)(e3:outs.length=n3)(hlt:∀v∈vs,v.k<18446744073709551616)(h:okG ins vs outs=true)(hs:s<n2)(hx:x<n2)(h3:(vs.getD s Vl.zero).len=1)(hwh:∀k,whO (vs.getD k Vl.zero).op):
  Calls Tryz.prog 10 #[ip (some ⟨g1,0,none⟩) n1 c1 (some ⟨g2,0,none⟩) n2 c2 (some ⟨g3,0,none⟩) n3 c3,.int .i64 (s:Int),.int .i64 (x:Int)] w λe w'=>(jR (grM vs s x).1=true->e=.returned (.tuple #[oF,.int .i64 0,.int .i64 5]))/\(jR (grM vs s x).1=false->Fz w' n1 n3 ins outs (grM vs s x) e)/\Kept 0 0 w w':=by
 have hgs:=f.gs hlt
 rw[e1,e3] at hgs
 have e2:vs.length=n2:=f.v.len
 have hok:=h
 unfold okG at hok
 simp only[Bool.and_eq_true,decide_eq_true_eq,e1,e2,e3] at hok
 obtain⟨⟨l1,l2,l3⟩,_,hv,_,hc5⟩:=hok
 have hK:=(hU 0 0 w (iv (some ⟨g1,0,none⟩) n1 c1 (some ⟨g2,0,none⟩) n2 c2 (some ⟨g3,0,none⟩) n3 c3)).trans (hU 0 0 _ iw)
 have HX:Hid _:=kN _ (some ⟨g1,0,none⟩) (some ⟨g2,0,none⟩) (some ⟨g3,0,none⟩) n1 c1 n2 c2 n3 c3 ins vs outs (hgs.keep hK)
 rw[h] at HX
 have HK:Hid _:=hK
 have hN:=i9 (w.alloc (iv (some ⟨g1,0,none⟩) n1 c1 (some ⟨g2,0,none⟩) n2 c2 (some ⟨g3,0,none⟩) n3 c3))
 rw[show(w.alloc (iv (some ⟨g1,0,none⟩) n1 c1 (some ⟨g2,0,none⟩) n2 c2 (some ⟨g3,0,none⟩) n3 c3)).heap.size=w.heap.size+1 by simp] at hN
 have HN:Hid _:=hN
 have HB:Hid _:=(iO w (.slice (some ⟨g1,0,none⟩) n1 c1) (.slice (some ⟨g2,0,none⟩) n2 c2) (.slice (some ⟨g3,0,none⟩) n3 c3)).keep (hU 0 0 _ iw)
 have HF:Hid _:=GN.keepJ f hK
 have HL3:Hid _:=h3
 have HE:Hid (ins.length=n1/\outs.length=n3/\vs.length=n2):=⟨e1,e3,e2⟩
 have hgr:AllV (grM vs s x).1:=yJ (yK (ins:=ins) (by rw[e2];exact hv) hlt) (by omega) (by omega)
 have HJL:Hid (∀k,k<(grM vs s x).1.length->1<=((grM vs s x).1.getD k Vl.zero).len/\((grM vs s x).1.getD k Vl.zero).len<=1000):=λk hk=>by
  rw[List.getD_eq_getElem?_getD,List.getElem?_eq_getElem hk]
  have:=hgr _ (List.getElem_mem hk)
  exact⟨this.1,this.2.1⟩
 have HJK:Hid (∀u∈(grM vs s x).1,u.k<18446744073709551616):=λu hu=>(hgr u hu).2.2
 have HLJ:Hid (∀W,GN W g1 g2 g3 n2 ins vs outs->_):=λW (fw:GN W g1 g2 g3 n2 ins vs outs)=>BT W _lo g1 g2 g3 n1 c1 n2 c2 n3 c3 s x ins vs outs fw e1 e3 (by omega) l2 (by omega) hv hc5 hs hx hwh
 have i0:(0:Int)<=(s:Int):=by omega
 have i1:(s:Int)<(n2:Int):=by omega
 have i2:(0:Int)<=(x:Int):=by omega
 have i3:(x:Int)<(n2:Int):=by omega
 clear hK h f hN h3 hv hc5 hgs hlt e2 e1 e3 hgr
 go_enter Tryz.func10,Tryz.ntmps10
 go_wp2_with fail
 generalize (w.alloc (iv (some ⟨g1,0,none⟩) n1 c1 (some ⟨g2,0,none⟩) n2 c2 (some ⟨g3,0,none⟩) n3 c3)).alloc iw=wB at HX HK HN HB HF ⊢
 refine Calls.mono HX.out ?_
 rintro e w2 ⟨rfl,k2⟩
 have HK2:Hid _:=k2
 obtain⟨_,p0,p1,p2⟩:=G0.keep HB.out k2
 have hVA:=(GN.keepJ HF.out k2).v
 have ct:=(hVA.at_ s hs).c1
 rw[HL3.out] at ct
 clear hVA k2 HX
 go_wp2_with fail
 have HK5:Hid _:=HK2.out
 generalize w2=w5 at HK2 HK5 p0 p1 p2 ct ⊢
 clear HK2 p0 p1 p2 ct
 refine Calls.mono (HLJ.out w5 (GN.keepJ HF.out HK5.out)) ?_
 rintro e w6 ⟨⟨b1,d1,b3,d3,a2,cap,rfl,o1,o2,o3⟩,k6⟩
 have ka:=hU 0 0 w6 (.cells #[.slice b1 n1 d1,.slice a2 (grM vs s x).1.length cap,.slice b3 n3 d3] 26)
 have HG:Hid (GL w6 w5.heap.size b1 n1 a2 (grM vs s x).1.length b3 n3 ins (grM vs s x).1 outs):=GL.of o1 o2 o3 HE.out.1 HE.out.2.1 HJK.out
 have HKZ:Hid (w.heap.size+1<w5.heap.size):=by have h1:=HN.out.sz;have h2:=HK5.out.size;exact Nat.lt_of_lt_of_le h1 h2
 have HK6:Hid _:=Kept.trans HK5.out k6
 have HK65:Hid (w5.heap.size<=w6.heap.size):=k6.size
 clear o1 o2 o3 k6 HLJ HK5 HB HF
 generalize hM:grM vs s x=M at HG HJL
 have HM:Hid (grM vs s x=M):=hM
 clear hM HJK
 obtain⟨Ml,Mi⟩:=M
 simp only at HG HJL
 have HFT:Hid _:=yX _ b1 a2 b3 n1 d1 Ml.length cap n3 d3 ins Ml outs (HG.out.keep (hU 0 0 w6 (.cells #[.slice b1 n1 d1,.slice a2 Ml.length cap,.slice b3 n3 d3] 26)) (.inr (Nat.le_refl _))).gs HJL.out
 have HBX:Hid _:=iO w6 (.slice b1 n1 d1) (.slice a2 Ml.length cap) (.slice b3 n3 d3)
 have HK7:Hid _:=Kept.trans HK6.out (hU 0 0 w6 (.cells #[.slice b1 n1 d1,.slice a2 Ml.length cap,.slice b3 n3 d3] 26))
 have HG7:Hid _:=HG.out.keep (hU 0 0 w6 (.cells #[.slice b1 n1 d1,.slice a2 Ml.length cap,.slice b3 n3 d3] 26)) (.inr (Nat.le_refl _))
 clear HG HK6 ka
 simp only
 go_wp2_with fail
 generalize w6.alloc (.cells #[.slice b1 n1 d1,.slice a2 Ml.length cap,.slice b3 n3 d3] 26)=w7 at HFT HBX HK7 HG7 ⊢
 refine Calls.mono HFT.out ?_
 rintro e w8 ⟨rfl,k8⟩
 obtain⟨_,r0,r1,r2⟩:=G0.keep HBX.out k8
 have HK8:Hid _:=Kept.trans HK7.out k8
 have HG8:Hid _:=HG7.out.keep k8 (.inr (Nat.le_refl _))
 have hXQ:w6.heap.size≠w.heap.size+1:=by have:=HKZ.out;have:=HK65.out;omega
 obtain⟨_,q0,q1,q2,f0,f1,f2⟩:=RB.keep HN.out HK8.out
 clear k8 HFT HBX HK7 HG7
 cases hlim:jR Ml
 ·obtain⟨y0,y1,y2⟩:=iy w8 (w.heap.size+1) _ _ _ q0 q1 q2 (.slice b1 n1 d1) (.slice a2 Ml.length cap) (.slice b3 n3 d3)
  have kp:=iD w8 (w.heap.size+1) (.slice b1 n1 d1) (.slice a2 Ml.length cap) (.slice b3 n3 d3)
  have R0:Hid (Kept 0 0 w _):=Kept.new (Kept.trans HK.out HK8.out) kp (by omega)
  have R1:Hid (GS (((w8.setCell ⟨w.heap.size+1,0,none⟩ (.slice b1 n1 d1)).setCell ⟨w.heap.size+1,1,none⟩ (.slice a2 Ml.length cap)).setCell ⟨w.heap.size+1,2,none⟩ (.slice b3 n3 d3)) b1 n1 a2 Ml.length b3 n3 ins Ml outs):=(HG8.out.keep kp (.inl (by have:=HKZ.out;omega))).gs
  clear kp
  go_wp2_with fail
  refine bodyPost_ret (v:=.tuple #[ip b1 n1 d1 a2 Ml.length cap b3 n3 d3,.int .i64 Mi,.int .i64 0]) (by simp[results,Tryz.results10,go_sem,y0,y1,y2]) rfl ⟨λhf=>?_,λ_=>?_,R0.out⟩
  ·rw[HM.out,hlim] at hf
   cases hf
  ·rw[HM.out]
   exact⟨b1,d1,b3,d3,a2,cap,rfl,R1.out⟩
 ·obtain⟨y0,y1,y2⟩:=iy w8 (w.heap.size+1) _ _ _ q0 q1 q2 (.slice none 0 0) (.slice none 0 0) (.slice none 0 0)
  have R0:Hid (Kept 0 0 w _):=Kept.new (Kept.trans HK.out HK8.out) (iD w8 (w.heap.size+1) (.slice none 0 0) (.slice none 0 0) (.slice none 0 0)) (by omega)
  go_wp2_with fail
  refine bodyPost_ret (v:=.tuple #[oF,.int .i64 0,.int .i64 5]) (by simp[results,Tryz.results10,go_sem,y0,y1,y2]) rfl ⟨λ_=>rfl,λhf=>?_,R0.out⟩
  rw[HM.out,hlim] at hf
  cases hf
end
section
open Go.RowKit Flt
theorem Eu (w:World)(g1 g2 g3 n1 c1 n2 c2 n3 c3:Nat)(s x t:Nat)(ins:List Int)(vs:List Vl)(outs:List Int)(f:GN w g1 g2 g3 n2 ins vs outs)(e1:ins.length=n1)(e3:outs.length=n3)(hlt:∀v∈vs,v.k<18446744073709551616)(h:okG ins vs outs=true)(hs:s<n2)(hx:x<n2)(ht:t<n2)(hl:(vs.getD t Vl.zero).len=(vs.getD x Vl.zero).len)(hwh:∀k,whO (vs.getD k Vl.zero).op):
  Calls Tryz.prog 9 #[ip (some ⟨g1,0,none⟩) n1 c1 (some ⟨g2,0,none⟩) n2 c2 (some ⟨g3,0,none⟩) n3 c3,.int .i64 (s:Int),.int .i64 (x:Int),.int .i64 (t:Int)] w λe w'=>JS1 w (if jR (jf vs s x t).1=true then .bad 5 else⟨ins,(jf vs s x t).1,outs,(jf vs s x t).2,0⟩) e w':=by
 refine(ti w 0 g1 g2 g3 n1 c1 n2 c2 n3 c3 s x t ins vs outs f e1 e3 hlt h hs hx ht hl hwh).mono λe w' q=>?_
 cases hb:jR (jf vs s x t).1
 ·rw[if_neg (by simp)]
  obtain⟨b1,d1,b3,d3,a2,cap,rfl,hg⟩:=q.2.1 hb
  subst e1 e3
  exact⟨⟨b1,d1,a2,cap,b3,d3,rfl,hg⟩,q.2.2⟩
 ·rw[if_pos rfl,q.1 hb]
  exact v7 5 q.2.2
theorem OI.iz {w w':World}{G d:Nat}{xs:List Int}(ho:OI w' w.heap.size G xs.length d xs):IZ w' G (some ⟨G,0,none⟩) xs.length xs/\w.heap.size<=G/\G<w'.heap.size:=by
 have hb:=ii ho (k:=G) rfl
 refine⟨?_,hb.1,hb.2⟩
 rcases sH ho rfl with h0|⟨g,e,_,hio⟩
 ·exact .inl h0
 ·cases e;exact .inr ⟨rfl,hio⟩
theorem zK {w:World}{B g c:Nat}{vs:List Vl}(o:w.ownsRow B 31 6 (.slice (some ⟨g,0,none⟩) vs.length c) vs.length (iN vs)):VZ w g (some ⟨g,0,none⟩) vs.length vs:=by
 rcases Nat.eq_zero_or_pos vs.length with h0|h0
 ·exact .inl h0
 ·obtain⟨g',c,e,_,_,_,hA⟩:=kU o h0 rfl
  cases e
  exact .inr ⟨rfl,hA⟩
theorem Ev (w:World)(g1 g2 g3 n1 c1 n2 c2 n3 c3:Nat)(s x t:Nat)(ins:List Int)(vs:List Vl)(outs:List Int)(f:GN w g1 g2 g3 n2 ins vs outs)(e1:ins.length=n1)(e3:outs.length=n3)(hlt:∀v∈vs,v.k<18446744073709551616)(h:okG ins vs outs=true)(hs:s<n2)(hx:x<n2)(ht:t<n2)(hl:(vs.getD t Vl.zero).len=(vs.getD x Vl.zero).len)(hb:jR (jf vs s x t).1=false)(hwh:∀k,whO (vs.getD k Vl.zero).op):
  Calls Tryz.prog 12 #[ip (some ⟨g1,0,none⟩) n1 c1 (some ⟨g2,0,none⟩) n2 c2 (some ⟨g3,0,none⟩) n3 c3,.int .i64 (s:Int),.int .i64 (x:Int),.int .i64 (t:Int)] w λe w'=>JS2 w ⟨ins,(jf vs s x t).1,outs,(jf vs s x t).2,0⟩ e w':=by
 refine(sX w 0 g1 g2 g3 n1 c1 n2 c2 n3 c3 s x t ins vs outs f e1 e3 hlt h hs hx ht hl hwh).mono λe w' q=>?_
 obtain⟨G1,d1,G3,d3,gv,cap,rfl,o1,o3,o2,n13,nv1,nv3⟩:=q.2.1 hb
 subst e1 e3
 refine⟨⟨_,d1,_,cap,_,d3,rfl,yZ vs s x t hlt,λH hH=>?_⟩,q.2.2⟩
 obtain⟨i1,i2,i3⟩:=OI.iz o1
 obtain⟨p1,p2,p3⟩:=OI.iz o3
 have hv:=ii o2 (k:=gv) rfl
 exact⟨G1,gv,G3,⟨i1,zK o2,p1,λc=>nv1 c.symm,n13,nv3⟩,⟨i2,hv.1,p2⟩,⟨by omega,by omega,by omega⟩⟩
theorem Ew (w:World)(g1 g2 g3 n1 c1 n2 c2 n3 c3:Nat)(s x:Nat)(ins:List Int)(vs:List Vl)(outs:List Int)(f:GN w g1 g2 g3 n2 ins vs outs)(e1:ins.length=n1)(e3:outs.length=n3)(hlt:∀v∈vs,v.k<18446744073709551616)(h:okG ins vs outs=true)(hs:s<n2)(hx:x<n2)(hl:(vs.getD s Vl.zero).len=1)(hwh:∀k,whO (vs.getD k Vl.zero).op):
  Calls Tryz.prog 10 #[ip (some ⟨g1,0,none⟩) n1 c1 (some ⟨g2,0,none⟩) n2 c2 (some ⟨g3,0,none⟩) n3 c3,.int .i64 (s:Int),.int .i64 (x:Int)] w λe w'=>JS1 w (if jR (grM vs s x).1=true then .bad 5 else⟨ins,(grM vs s x).1,outs,(grM vs s x).2,0⟩) e w':=by
 refine(rj w 0 g1 g2 g3 n1 c1 n2 c2 n3 c3 s x ins vs outs f e1 e3 hlt h hs hx hl hwh).mono λe w' q=>?_
 cases hb:jR (grM vs s x).1
 ·rw[if_neg (by simp)]
  obtain⟨b1,d1,b3,d3,a2,cap,rfl,hg⟩:=q.2.1 hb
  subst e1 e3
  exact⟨⟨b1,d1,a2,cap,b3,d3,rfl,hg⟩,q.2.2⟩
 ·rw[if_pos rfl,q.1 hb]
  exact v7 5 q.2.2
theorem Ex (w:World)(g1 g2 g3 n1 c1 n2 c2 n3 c3:Nat)(s x:Nat)(ins:List Int)(vs:List Vl)(outs:List Int)(f:GN w g1 g2 g3 n2 ins vs outs)(e1:ins.length=n1)(e3:outs.length=n3)(hlt:∀v∈vs,v.k<18446744073709551616)(h:okG ins vs outs=true)(hs:s<n2)(hx:x<n2)(hl:(vs.getD s Vl.zero).len=1)(hb:jR (grM vs s x).1=false)(hwh:∀k,whO (vs.getD k Vl.zero).op):
  Calls Tryz.prog 13 #[ip (some ⟨g1,0,none⟩) n1 c1 (some ⟨g2,0,none⟩) n2 c2 (some ⟨g3,0,none⟩) n3 c3,.int .i64 (s:Int),.int .i64 (x:Int)] w λe w'=>JS2 w ⟨ins,(grM vs s x).1,outs,(grM vs s x).2,0⟩ e w':=by
 have e2:vs.length=n2:=f.v.len
 have hvv:(List.range vs.length).all (okV ins vs)=true:=by
  have hok:=h
  unfold okG at hok
  simp only[Bool.and_eq_true] at hok
  exact hok.2.2.1
 refine(rh w 0 g1 g2 g3 n1 c1 n2 c2 n3 c3 s x ins vs outs f e1 e3 hlt h hs hx hl hwh).mono λe w' q=>?_
 obtain⟨G1,d1,G3,d3,gv,cap,rfl,o1,o3,o2,n13,nv1,nv3⟩:=q.2.1 hb
 subst e1 e3
 refine⟨⟨_,d1,_,cap,_,d3,rfl,(λu hu=>(yJ (yK hvv hlt) (by omega) (by omega) u hu).2.2),λH hH=>?_⟩,q.2.2⟩
 obtain⟨i1,i2,i3⟩:=OI.iz o1
 obtain⟨p1,p2,p3⟩:=OI.iz o3
 have hv:=ii o2 (k:=gv) rfl
 exact⟨G1,gv,G3,⟨i1,zK o2,p1,λc=>nv1 c.symm,n13,nv3⟩,⟨i2,hv.1,p2⟩,⟨by omega,by omega,by omega⟩⟩
end
section
open Go.RowKit Flt Ieee
variable {ys ins:List Int} {us vs fs r:List Vl} {s x:Nat} {dss:List (List Nat)}
abbrev iP (ins:List Int)(vs:List Vl)(x:Nat):List Int:=ins++[(vs.getD x Vl.zero).len]
structure DC (ys ins:List Int)(vs:List Vl)(s x:Nat):Prop where
 ok:okG (iP ins vs x) (duV ys ins vs x) (duO s)=true
 wh:AllW (duV ys ins vs x)
 hs:s<vs.length
 hx:x<vs.length
 ls:(vs.getD s Vl.zero).len=1
 hy:∀p,kr ys p<256
theorem mn {outs:List Int}(h:okG ins vs outs=true):(ins.length<=20/\vs.length<=2000/\outs.length<=50)/\(∀j,j<ins.length->1<=ins.getD j 0/\ins.getD j 0<=1000)/\(List.range vs.length).all (okV ins vs)=true:=by
 unfold okG at h
 simp only[Bool.and_eq_true] at h
 obtain⟨h1,h2,h3,_,_⟩:=h
 refine⟨of_decide_eq_true h1,λj hj=>?_,h3⟩
 exact of_decide_eq_true (List.all_eq_true.1 h2 _ (ng hj))
theorem DC.inb (h:DC ys ins vs s x):inB (iP ins vs x) (inM ys (iP ins vs x))=true:=Bp λj hj=>((mn h.ok).2.1 j hj).1
theorem DC.zp (h:DC ys ins vs s x):ZP m6 1000000 (iP ins vs x) (duV ys ins vs x) (inM ys (iP ins vs x)):=
 ⟨fm6,by decide,by decide,h.inb,(mn h.ok).2.2,λi _=>(h.wh.get i).1,λi _=>(h.wh.get i).2,λj k hk=>by obtain⟨z,hz,_⟩:=qG h.hy j k hk;exact⟨z,hz⟩⟩
theorem BU {a b:Nat}{z:Int}(h:fb a=fb b)(hb:FZ b z):FZ a z:=by
 rcases lP h with c|⟨_,c⟩
 ·rw[c];exact hb
 ·have:=vg hb
  rw[this] at c
  cases c
theorem DC.hZ (h:DC ys ins vs s x){zss:List (List Nat)}(hz:∀j,j<=s->same (zss.getD j []) ((io (inM ys (iP ins vs x)) (duV ys ins vs x) (duV ys ins vs x).length).getD j [])):
  ∀i,i<=s->(∀j,j<i->(zss.getD j []).all (okW m6)=true)->∀j,j<i->∀k,k<ln (duV ys ins vs x) j->FZ ((zss.getD j []).getD k 0) (zV (inM ys (iP ins vs x)) (duV ys ins vs x) j k)/\-1000000<=zV (inM ys (iP ins vs x)) (duV ys ins vs x) j k/\zV (inM ys (iP ins vs x)) (duV ys ins vs x) j k<=1000000:=by
 intro i hi ha j hj k hk
 have hlen:(duV ys ins vs x).length=vs.length+1:=jJ _ _ _ _
 have hs:=h.hs
 have hl:∀q,q<(duV ys ins vs x).length->((io (inM ys (iP ins vs x)) (duV ys ins vs x) (duV ys ins vs x).length).getD q []).length=ln (duV ys ins vs x) q:=λq hq=>by
  have h1:=jU h.inb _ (mn h.ok).2.2 q hq
  have e:(vd (duV ys ins vs x) q).len=((duV ys ins vs x).getD q Vl.zero).len:=rfl
  show _=(vd (duV ys ins vs x) q).len.toNat
  omega
 have:=h.zp.vals (M:=i) (by omega) (λq hq p hp=>by
  rw[<-rN (jk (hz q (by omega)) p)]
  exact vu (ha q hq) (by rw[jY (hz q (by omega)),hl q (by omega)];exact hp)) j hj k hk
 exact⟨BU (jk (hz j (by omega)) k) this.1,this.2.1⟩
abbrev dT (ys ins:List Int)(vs:List Vl)(x:Nat):List Nat:=(inM ys (iP ins vs x)).getD ins.length []
theorem FA (ys ins:List Int)(vs:List Vl)(x:Nat):dT ys ins vs x=lf ys (uy (iP ins vs x) ins.length) (vs.getD x Vl.zero).len.toNat:=by
 unfold dT
 rw[pQ ys (by simp)]
 congr 1
 rw[List.getD_eq_getElem?_getD,List.getElem?_append_right (Nat.le_refl _),Nat.sub_self]
 rfl
theorem zL (ys ins:List Int)(vs:List Vl)(x:Nat):(dT ys ins vs x).length=(vs.getD x Vl.zero).len.toNat:=by rw[FA,mG]
theorem nC (ys ins:List Int)(x:Nat){j:Nat}(h:j<vs.length):(vd (duV ys ins vs x) j).len=(vs.getD j Vl.zero).len:=by
 show((duV ys ins vs x).getD j Vl.zero).len=_
 rw[nV ys ins vs x j h,tw]
theorem Ey (ys ins:List Int)(vs:List Vl)(x:Nat):(io (inM ys (iP ins vs x)) (duV ys ins vs x) (duV ys ins vs x).length).getD vs.length []=dT ys ins vs x:=by
 rw[jJ,lI,nu]
 unfold one
 rw[if_pos rfl]
 rfl
theorem DC.tz (h:DC ys ins vs s x){k:Nat}(hk:k<(vs.getD x Vl.zero).len.toNat):FZ ((dT ys ins vs x).getD k 0) (zf ((dT ys ins vs x).getD k 0))/\-3<=zf ((dT ys ins vs x).getD k 0)/\zf ((dT ys ins vs x).getD k 0)<=3:=by
 obtain⟨z,hz,h1,h2⟩:=qG (ins:=iP ins vs x) h.hy ins.length k (by show k<(dT ys ins vs x).length;rw[zL];exact hk)
 have e:=rI hz
 rw[e]
 exact⟨hz,h1,h2⟩
theorem DC.zg (h:DC ys ins vs s x)(hfs:fs=duV ys ins vs x++r)(hw:AllW fs)(hsm:∀i,i<fs.length->SmO m12 (iP ins vs x) fs (inM ys (iP ins vs x)) fs.length i):ZG m12 1000000000000 (iP ins vs x) fs (inM ys (iP ins vs x)):=by
 have h0:0<fs.length:=by rw[hfs,List.length_append,jJ];omega
 have hok:=(mn (hsm 0 h0).1).2.2
 refine⟨FM,by decide,by decide,h.inb,hok,λi _=>(hw.get i).1,λi _=>(hw.get i).2,λj k hk=>by obtain⟨z,hz,_⟩:=qG h.hy j k hk;exact⟨z,hz⟩,λi hi k hk=>(hsm i hi).2.2 k ?_⟩
 have h1:=jU h.inb _ hok i hi
 have:k<(vd fs i).len.toNat:=hk
 have e:(vd fs i).len=(fs.getD i Vl.zero).len:=rfl
 omega
theorem DC.dv (h:DC ys ins vs s x)(hfs:fs=duV ys ins vs x++r)(hz:ZG m12 1000000000000 (iP ins vs x) fs (inM ys (iP ins vs x))){T:Nat->Int}(hM:MvI (duV ys ins vs x) (zV (inM ys (iP ins vs x)) (duV ys ins vs x)) T x dss (s+1)):DV (duV ys ins vs x) fs (zV (inM ys (iP ins vs x)) fs) (dz dss) T s x:=by
 have hlen:(duV ys ins vs x).length=vs.length+1:=jJ _ _ _ _
 have hs:=h.hs
 have hx:=h.hx
 have hsh:∀i,i<(duV ys ins vs x).length->Shp (duV ys ins vs x) i:=λi hi=>h.zp.shp hi
 refine⟨hsh,λi _=>(h.wh.get i).1,λi hi k hk h0=>(hz.vals i hi k hk).2.2 h0,λi hi k hk=>?_,by omega,by omega,λi hi=>by rw[hfs];exact sV hi⟩
 rw[((hM i (by omega)).2 k hk).2.2]
 exact oh (hsh i (by omega)) (h.wh.get i).1 hk (λ_ _ _ _=>rfl) λj hj q _=>by rw[hfs,zy _ _ _ (by omega)]
theorem zf0:zf 0=0:=rI (lk 0 (by decide))
theorem zf1:zf 4607182418800017408=1:=rI wj
theorem DC.jvp (h:DC ys ins vs s x)(hM:MvI (duV ys ins vs x) (zV (inM ys (iP ins vs x)) (duV ys ins vs x)) (λk=>zf ((dT ys ins vs x).getD k 0)) x dss (s+1)){J:Int}(hf:jf (duV ys ins vs x) s x vs.length=(fs,J))(hsm:∀i,i<fs.length->SmO m12 (iP ins vs x) fs (inM ys (iP ins vs x)) fs.length i):
  0<=J/\J.toNat<fs.length/\((io (inM ys (iP ins vs x)) fs fs.length).getD J.toNat []).length=1/\FZ (((io (inM ys (iP ins vs x)) fs fs.length).getD J.toNat []).getD 0 0) (if x<=s then dz dss s 0 else 0):=by
 have e1:fs=(jf (duV ys ins vs x) s x vs.length).1:=by rw[hf]
 have e2:J=(jf (duV ys ins vs x) s x vs.length).2:=by rw[hf]
 obtain⟨r,hr⟩:=zw (duV ys ins vs x) s x vs.length
 rw[<-e1] at hr
 have hw:AllW fs:=by rw[e1];exact BI h.wh s x vs.length
 have hz:=h.zg hr hw hsm
 have hlen:(duV ys ins vs x).length=vs.length+1:=jJ _ _ _ _
 have lt:(vd (duV ys ins vs x) vs.length).len=(vs.getD x Vl.zero).len:=by show((duV ys ins vs x).getD vs.length Vl.zero).len=_;rw[nu]
 have lx:=nC ys ins x h.hx
 have hlx:=(h.zp.shp (i:=x) (by have:=h.hx;omega)).len
 obtain⟨j1,j2,j3,j4⟩:=E3 (h.dv hr hz hM) (t:=vs.length) (by omega) (by show(vd (duV ys ins vs x) vs.length).len.toNat=(vd (duV ys ins vs x) x).len.toNat;rw[lt,lx]) (λk hk=>by
  show zV (inM ys (iP ins vs x)) fs vs.length k=_
  rw[hr,zy _ _ _ (by omega)]
  unfold zV
  rw[Ey]) e1 zf0
 rw[<-e2] at j1 j2 j3 j4
 have ls:ln (duV ys ins vs x) s=1:=by show(vd (duV ys ins vs x) s).len.toNat=1;rw[nC ys ins x h.hs,h.ls];rfl
 rw[ls] at j3 j4
 have hv:=hz.vals J.toNat j2 0 (by omega)
 refine⟨j1,j2,?_,?_⟩
 ·have h1:=jU h.inb _ hz.ok J.toNat j2
  have h3:(vd fs J.toNat).len.toNat=1:=j3
  have e:(vd fs J.toNat).len=(fs.getD J.toNat Vl.zero).len:=rfl
  omega
 ·rw[<-j4 0 (by omega)]
  exact hv.1
theorem DC.grad (h:DC ys ins vs s x)(hM:MvI (duV ys ins vs x) (zV (inM ys (iP ins vs x)) (duV ys ins vs x)) (λk=>zf ((dT ys ins vs x).getD k 0)) x dss (s+1)){G:Int}(hf:grM (duV ys ins vs x) s x=(fs,G))(hsm:∀i,i<fs.length->SmO m12 (iP ins vs x) fs (inM ys (iP ins vs x)) fs.length i):
  0<=G/\G.toNat<fs.length/\(((io (inM ys (iP ins vs x)) fs fs.length).getD G.toNat []).length:Int)=(vs.getD x Vl.zero).len/\(∀k,k<(vs.getD x Vl.zero).len.toNat->FZ (((io (inM ys (iP ins vs x)) fs fs.length).getD G.toNat []).getD k 0) (zV (inM ys (iP ins vs x)) fs G.toNat k)/\-1000000000000<=zV (inM ys (iP ins vs x)) fs G.toNat k/\zV (inM ys (iP ins vs x)) fs G.toNat k<=1000000000000)/\
  ld (zV (inM ys (iP ins vs x)) fs G.toNat) (λk=>zf ((dT ys ins vs x).getD k 0)) (vs.getD x Vl.zero).len.toNat=if x<=s then dz dss s 0 else 0:=by
 have e1:fs=(grM (duV ys ins vs x) s x).1:=by rw[hf]
 have e2:G=(grM (duV ys ins vs x) s x).2:=by rw[hf]
 obtain⟨r,hr⟩:=BM (duV ys ins vs x) s x
 rw[<-e1] at hr
 have hw:AllW fs:=by rw[e1];exact El h.wh s x
 have hz:=h.zg hr hw hsm
 have hlen:(duV ys ins vs x).length=vs.length+1:=jJ _ _ _ _
 have lx:=nC ys ins x h.hx
 have ls:ln (duV ys ins vs x) s=1:=by show(vd (duV ys ins vs x) s).len.toNat=1;rw[nC ys ins x h.hs,h.ls];rfl
 obtain⟨j1,j2,j3,j4⟩:=Dp (h.dv hr hz hM) ls e1 zf0 zf1
 rw[<-e2] at j1 j2 j3 j4
 have lx2:ln (duV ys ins vs x) x=(vs.getD x Vl.zero).len.toNat:=by show(vd (duV ys ins vs x) x).len.toNat=_;rw[lx]
 rw[lx2] at j3 j4
 have hlx:=(h.zp.shp (i:=x) (by have:=h.hx;omega)).len
 rw[lx] at hlx
 refine⟨j1,j2,?_,λk hk=>?_,j4⟩
 ·have h1:=jU h.inb _ hz.ok G.toNat j2
  have h3:(vd fs G.toNat).len.toNat=(vs.getD x Vl.zero).len.toNat:=j3
  have e:(vd fs G.toNat).len=(fs.getD G.toNat Vl.zero).len:=rfl
  have h4:=(hz.shp j2).len
  omega
 ·have:=hz.vals G.toNat j2 k (by rw[j3];exact hk)
  exact⟨this.1,this.2.1⟩
theorem xt (h:us.map nk=vs.map nk):us.map sv=vs.map sv:=by
 have hl:us.length=vs.length:=by simpa using congrArg List.length h
 refine List.ext_getElem (by simpa using hl) λj h1 h2=>?_
 have e:=nx (lD h j)
 simp only[List.length_map] at h1 h2
 rw[List.getD_eq_getElem?_getD,List.getD_eq_getElem?_getD,List.getElem?_eq_getElem h1,List.getElem?_eq_getElem h2] at e
 simpa using e
theorem wk (h:us.map nk=vs.map nk):jR us=jR vs:=by
 have hl:us.length=vs.length:=by simpa using congrArg List.length h
 unfold jR
 rw[hl,nM us vs hl λj _=>oj (nx (lD h j))]
end
end Go.Proofs.YtnlffngpnoodkaaGreat
