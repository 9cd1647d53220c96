import Derived.Test.YtdpbpcnldpkljaaGreatP29
import Derived.Test.YtdpbpcnldpkljaaGreatP28
import Derived.Test.YtdpbpcnldpkljaaGreatP33
namespace Go.Proofs.Z
open Tryz
set_option maxRecDepth 1000000
set_option maxHeartbeats 0
section
open Go.RowKit Flt
attribute [local go_sem] eD eB eA
variable {w w':World} {B n c:Nat} {b a:Option Addr} {xs:List Int}
def LsI (w:World)(b:Option Addr)(n c:Nat)(xs:List Int):Prop:=xs.length=n/\((b=none/\n=0/\c=0)\/∃g,b=some ⟨g,0,none⟩/\IE w g xs)
def LsV (w:World)(b:Option Addr)(n c:Nat)(vs:List Vl):Prop:=vs.length=n/\((b=none/\n=0/\c=0)\/∃g,b=some ⟨g,0,none⟩/\VA w g n vs)
theorem LsI.keep (h:LsI w b n c xs)(k:Kept 0 0 w w'):LsI w' b n c xs:=⟨h.1,h.2.imp id λ⟨g,e,f⟩=>⟨g,e,f.keep k yaa⟩⟩
theorem LsV.keep {vs:List Vl}(h:LsV w b n c vs)(k:Kept 0 0 w w'):LsV w' b n c vs:=⟨h.1,h.2.imp id λ⟨g,e,f⟩=>⟨g,e,f.keep k yaa⟩⟩
theorem LsI.is (h:LsI w b n c xs):IS w 0 w.heap.size b n xs:=by
 obtain⟨rfl,⟨rfl,h0,_⟩|⟨g,rfl,f⟩⟩:=h
 ·exact⟨rfl,.inl h0⟩
 ·exact f.is
theorem LsV.vs {vs:List Vl}(h:LsV w b n c vs)(hk:Kb vs):VS w 0 w.heap.size b n vs:=by
 obtain⟨hl,⟨rfl,h0,_⟩|⟨g,rfl,f⟩⟩:=h
 ·exact⟨hl,hk,.inl h0⟩
 ·exact f.vs hk
theorem wA {W:World}(h:W.ownsRow B 3 1 (.slice a n c) n (xs.map (Value.int .i64)))(hl:xs.length=n):LsI W a n c xs:=by
 refine⟨hl,?_⟩
 rcases h.2 with⟨e,h0⟩|⟨g,cap,cur,e,_⟩
 ·cases e;exact .inl ⟨rfl,rfl,rfl⟩
 ·cases e
  have q:=v9 h hl
  exact .inr ⟨g,rfl,q.lt,λk hk=>q.at_ k xaa⟩
theorem EW {W:World}{vs:List Vl}(h:W.ownsRow B 35 6 (.slice a n c) n (fp vs))(hl:vs.length=n):LsV W a n c vs:=by
 refine⟨hl,?_⟩
 rcases h.2 with⟨e,h0⟩|⟨g,cap,cur,e,_⟩
 ·cases e;exact .inl ⟨rfl,rfl,rfl⟩
 ·cases e
  exact .inr ⟨g,rfl,(uO h hl).1⟩
theorem wC (h:LsI w b n c xs)(hn:n<=1000000):Calls prog 67 #[.slice b n c] w λe w'=>∃B d,e=.returned (.slice B n d)/\w'.ownsRow w.heap.size 3 1 (.slice B n d) n (xs.map (Value.int .i64))/\Kept 0 0 w w':=by
 obtain⟨hl,⟨rfl,rfl,rfl⟩|⟨g,rfl,f⟩⟩:=h
 ·obtain rfl:=List.eq_nil_of_length_eq_zero hl
  have heq:(binOp .eql 23 (.slice none 0 0) (.slice none 0 0)).run prog w=.ok (.bool true) w:=by
   simp only[binOp]
   simp[run_equal_slice_nil w 23 3 none 0 0 underlying23]
  go_enter func67,ntmps67
  exact xil
 ·exact(Fq w g n c xs hn f hl).mono λe w' ⟨G,cap,h1,_,_,h2,h3⟩=>⟨_,_,h1,h2,h3⟩
theorem Db {vs:List Vl}(h:LsV w b n c vs)(hn:n<=1000000):Calls prog 68 #[.slice b n c] w λe w'=>∃B d,e=.returned (.slice B n d)/\w'.ownsRow w.heap.size 35 6 (.slice B n d) n (fp vs)/\Kept 0 0 w w':=by
 obtain⟨hl,⟨rfl,rfl,rfl⟩|⟨g,rfl,f⟩⟩:=h
 ·obtain rfl:=List.eq_nil_of_length_eq_zero hl
  have heq:(binOp .eql 24 (.slice none 0 0) (.slice none 0 0)).run prog w=.ok (.bool true) w:=by
   simp only[binOp]
   simp[run_equal_slice_nil w 24 35 none 0 0 underlying24]
  go_enter func68,ntmps68
  exact xil
 ·exact(Fr w g n c vs hn f).mono λe w' ⟨G,cap,h1,_,_,h2,h3⟩=>⟨_,_,h1,h2,h3⟩
theorem vr (w:World)(xs:Array Value)(T:TypeId):IBk (w.alloc (.cells xs T)) w.heap.size 0 []:=⟨rfl,by simp,λk hk=>by omega,λo=>World.frozen?_alloc_at _ _ w.heap.size o rfl⟩
theorem Iu (w:World)(b1 b2 b3:Option Addr)(n1 c1 n2 c2 n3 c3:Nat)(ins:List Int)(vs:List Vl)(outs:List Int)(h1:LsI w b1 n1 c1 ins)(h2:LsV w b2 n2 c2 vs)(h3:LsI w b3 n3 c3 outs)(l1:n1<=1000000)(l2:n2<=2000)(l3:n3<=1000000):
  Calls prog 35 #[eR b1 n1 c1 b2 n2 c2 b3 n3 c3] w λe w'=>∃B1 d1 B2 d2 B3 d3,e=.returned (eR B1 n1 d1 B2 n2 d2 B3 n3 d3)/\(w'.ownsRow (w.heap.size+2) 3 1 (.slice B1 n1 d1) n1 (ins.map (Value.int .i64))/\w'.ownsRow (w.heap.size+2) 35 6 (.slice B2 n2 d2) n2 (fp vs)/\w'.ownsRow (w.heap.size+2) 3 1 (.slice B3 n3 d3) n3 (outs.map (Value.int .i64)))/\(Apart (.slice B1 n1 d1) (.slice B2 n2 d2)/\Apart (.slice B1 n1 d1) (.slice B3 n3 d3)/\Apart (.slice B2 n2 d2) (.slice B3 n3 d3))/\(IBk w' w.heap.size 0 []/\IBk w' (w.heap.size+1) 0 [])/\Kept 0 0 w w':=by
 have k0:=ez 0 0 w (eP b1 n1 c1 b2 n2 c2 b3 n3 c3)
 have k0':=ez 0 0 (w.alloc (eP b1 n1 c1 b2 n2 c2 b3 n3 c3)) eZ
 have HB:Hid _:=(fE w (.slice b1 n1 c1) (.slice b2 n2 c2) (.slice b3 n3 c3)).keep k0'
 have hz:(w.alloc (eP b1 n1 c1 b2 n2 c2 b3 n3 c3)).heap.size=w.heap.size+1:=by simp
 have hR:=fZ (w.alloc (eP b1 n1 c1 b2 n2 c2 b3 n3 c3))
 have hG:=vr (w.alloc (eP b1 n1 c1 b2 n2 c2 b3 n3 c3)) #[.slice none 0 0,.slice none 0 0,.slice none 0 0] 26
 rw[hz] at hR hG
 have HR:Hid _:=hR
 have HG:Hid _:=hG
 have HG0:Hid _:=(vr w #[.slice b1 n1 c1,.slice b2 n2 c2,.slice b3 n3 c3] 26).keep k0' yaa
 have HK:Hid _:=k0.trans k0'
 have HI1:Hid _:=h1.keep (k0.trans k0')
 have HI2:Hid _:=h2.keep (k0.trans k0')
 have HI3:Hid _:=h3.keep (k0.trans k0')
 have HZ:Hid (((w.alloc (eP b1 n1 c1 b2 n2 c2 b3 n3 c3)).alloc eZ).heap.size=w.heap.size+1+1):=by show _=_;simp
 clear h1 h2 h3 k0 k0' hz hR hG
 obtain⟨_,q0,q1,q2⟩:=HB.out
 go_enter func35,ntmps35
 go_wp2_with fail
 generalize (w.alloc (eP b1 n1 c1 b2 n2 c2 b3 n3 c3)).alloc eZ=w1 at HB HR HK HI1 HI2 HI3 HZ HG HG0 q0 q1 q2 ⊢
 have hPR:w.heap.size≠w.heap.size+1:=xaa
 go_region_held3 (λw'=>w'.cell? ⟨w.heap.size,0,none⟩=some (.slice b1 n1 c1)/\w'.cell? ⟨w.heap.size,1,none⟩=some (.slice b2 n2 c2)/\w'.cell? ⟨w.heap.size,2,none⟩=some (.slice b3 n3 c3)) (first|go_keep|(simp only[zc _ _ _ _ _ _ _ hPR];exact⟨r0,r1,r2⟩))
  (first
   |(go_at_call 67;refine yai (wC (LsI.keep HI3.out kk2) l3) ?_;rintro e w4 ⟨B3,d3,rfl,o3,k3⟩;have kk3:=Kept.trans kk2 k3;obtain⟨_,r0,r1,r2⟩:=G0.keep HB.out kk3;obtain⟨_,j0,j1,j2,f0,f1,f2⟩:=RB.keep HR.out kk3)
   |(go_at_call 68;refine yai (Db (LsV.keep HI2.out kk1) xaa) ?_;rintro e w3 ⟨B2,d2,rfl,o2,k2⟩;have kk2:=Kept.trans kk1 k2;obtain⟨_,t0,t1,t2⟩:=G0.keep HB.out kk2)
   |(go_at_call 67;refine yai (wC (LsI.keep HI1.out (eK 0 0 w1 1)) l1) ?_;rintro e w2 ⟨B1,d1,rfl,o1,k1⟩;have kk1:=Kept.trans (eK 0 0 w1 1) k1;obtain⟨_,s0,s1,s2⟩:=G0.keep HB.out kk1))
 have hz1:(w1.drewN 1).heap.size=w.heap.size+1+1:=HZ.out
 have hz0:w1.drew.heap.size=w.heap.size+1+1:=HZ.out
 have hz2:(w1.drewN 1).heap.size<=w2.heap.size:=k1.size
 have hz3:w2.heap.size<=w3.heap.size:=k2.size
 have HA:Hid (Apart (.slice B1 n1 d1) (.slice B2 n2 d2)/\Apart (.slice B1 n1 d1) (.slice B3 n3 d3)/\Apart (.slice B2 n2 d2) (.slice B3 n3 d3)):=⟨kB o1 o2 yad,kB o1 o3 hz3,kB o2 o3 yad⟩
 have H1:Hid (w4.ownsRow (w.heap.size+2) 3 1 (.slice B1 n1 d1) n1 (ins.map (Value.int .i64))):=iq (eO o1 (k2.trans k3)) xaa
 have H2:Hid (w4.ownsRow (w.heap.size+2) 35 6 (.slice B2 n2 d2) n2 (fp vs)):=iq (eO o2 k3) xaa
 have H3:Hid (w4.ownsRow (w.heap.size+2) 3 1 (.slice B3 n3 d3) n3 (outs.map (Value.int .i64))):=iq o3 xaa
 have HK4:Hid _:=HK.out.trans kk3
 have HG4:Hid _:=HG.out.keep kk3 yaa
 have HG5:Hid _:=HG0.out.keep kk3 yaa
 clear q0 q1 q2 s0 s1 s2 t0 t1 t2 r0 r1 r2 o1 o2 o3 k1 k2 k3 kk1 kk2 kk3 hz0 hz1 hz2 hz3 HI1 HI2 HI3 HB
 go_wp2_with fail
 obtain⟨y0,y1,y2⟩:=eY w4 (w.heap.size+1) _ _ _ j0 j1 j2 (.slice B1 n1 d1) (.slice B2 n2 d2) (.slice B3 n3 d3)
 have kp:=fc w4 (w.heap.size+1) (.slice B1 n1 d1) (.slice B2 n2 d2) (.slice B3 n3 d3)
 have own:∀{u:Value} {xs:List Value} {m e s:Nat},w4.ownsRow (w.heap.size+2) e s u m xs->(fe w4 (w.heap.size+1) (.slice B1 n1 d1) (.slice B2 n2 d2) (.slice B3 n3 d3)).ownsRow (w.heap.size+2) e s u m xs:=λo=>fK o kp λb hb=>by have:=(eG o hb).1;omega
 refine yay (v:=eR B1 n1 d1 B2 n2 d2 B3 n3 d3) (by simp[results,results35,go_sem,y0,y1,y2]) rfl ⟨B1,d1,B2,d2,B3,d3,rfl,⟨own H1.out,own H2.out,own H3.out⟩,HA.out,⟨HG5.out.keep kp xaa,rfl,yaj HG4.out.lt kp.size,λk hk=>by omega,λo=>?_⟩,HK4.out.new kp xaa⟩
 have:=HG4.out.free o
 simpa using this
end
section
open Go.RowKit Flt
variable {bs ins:List Int} {vs:List Vl}
def opT (k:Nat):Int:=[0,2,3,4,5,7,4,2,3].getD k 0
def gwM (ins:List Int)(vs:List Vl)(bs:List Int)(i:Nat):Vl×Nat:=
 if nv bs i%16=0\/vs.length=0 then
  if 0<ins.length/\nv bs (ni bs i)%2=1 then (⟨0,ins.getD (nv bs (ni bs (ni bs i))%ins.length) 0,((nv bs (ni bs (ni bs i))%ins.length:Nat):Int),0,0,0⟩,ni bs (ni bs (ni bs i)))
  else (⟨1,((1+nv bs (dfI bs (if 0<ins.length then ni bs (ni bs i) else ni bs i))%4:Nat):Int),0,0,0,0⟩,ni bs (dfI bs (if 0<ins.length then ni bs (ni bs i) else ni bs i)))
 else if nv bs i%16<9 then (⟨opT (nv bs i%16),(vd vs (nv bs (ni bs i)%vs.length)).len,((nv bs (ni bs i)%vs.length:Nat):Int),iZ vs (vd vs (nv bs (ni bs i)%vs.length)).len (nv bs (ni bs (ni bs i))),0,0⟩,ni bs (ni bs (ni bs i)))
 else if nv bs i%16=9 then (⟨6,(vd vs (nv bs (ni bs i)%vs.length)).len,((nv bs (ni bs i)%vs.length:Nat):Int),0,0,0⟩,ni bs (ni bs i))
 else if nv bs i%16=10 then (⟨8,(vd vs (nv bs (ni bs i)%vs.length)).len,((nv bs (ni bs i)%vs.length:Nat):Int),iZ vs (vd vs (nv bs (ni bs i)%vs.length)).len (nv bs (ni bs (ni bs i))),iZ vs (vd vs (nv bs (ni bs i)%vs.length)).len (nv bs (ni bs (ni bs (ni bs i)))),0⟩,ni bs (ni bs (ni bs (ni bs i))))
 else if nv bs i%16=11 then (⟨9,1,((nv bs (ni bs i)%vs.length:Nat):Int),0,0,0⟩,ni bs (ni bs i))
 else if nv bs i%16=12 then (⟨11,1,((nv bs (ni bs i)%vs.length:Nat):Int),0,((nv bs (ni bs (ni bs i))%(vd vs (nv bs (ni bs i)%vs.length)).len.toNat:Nat):Int),0⟩,ni bs (ni bs (ni bs i)))
 else if nv bs i%16=13 then (⟨13,(vd vs (nv bs (ni bs i)%vs.length)).len,((nv bs (ni bs i)%vs.length:Nat):Int),0,0,0⟩,ni bs (ni bs i))
 else if iZ vs 1 (nv bs (ni bs (ni bs i)))<0 then (⟨9,1,((nv bs (ni bs i)%vs.length:Nat):Int),0,0,0⟩,ni bs (ni bs (ni bs (ni bs i))))
 else if nv bs i%16=14 then (⟨10,((1+nv bs (ni bs (ni bs (ni bs i)))%4:Nat):Int),iZ vs 1 (nv bs (ni bs (ni bs i))),0,0,0⟩,ni bs (ni bs (ni bs (ni bs i))))
 else (⟨12,((1+nv bs (ni bs (ni bs (ni bs i)))%4:Nat):Int),iZ vs 1 (nv bs (ni bs (ni bs i))),0,((nv bs (ni bs (ni bs (ni bs (ni bs i))))%(1+nv bs (ni bs (ni bs (ni bs i)))%4):Nat):Int),0⟩,ni bs (ni bs (ni bs (ni bs (ni bs i)))))
theorem EX {w:World}{B P:Nat}{a:Option Addr}{n cap i:Nat}{a1 a2 a3:Option Addr}{n1 c1 c2 n3 c3:Nat}{outs:List Int}(f:DG w B (.slice a1 n1 c1) (.slice a2 vs.length c2) (.slice a3 n3 c3) ins vs outs)(hR:RdF w P a n cap i bs)(hP:P<B)(hn:vs.length<=100000)(hL:∀k,k<vs.length->1<=(vd vs k).len/\(vd vs k).len<=1000):
  Calls prog 28 #[eR a1 n1 c1 a2 vs.length c2 a3 n3 c3,.pointer (some ⟨P,0,none⟩)] w (GwO w B P a n cap (gwM ins vs bs i).2 bs (.slice a1 n1 c1) (.slice a2 vs.length c2) (.slice a3 n3 c3) ins vs outs (gwM ins vs bs i).1):=by
 have e1:n1=ins.length:=iX f.r1
 unfold gwM
 by_cases h0:nv bs i%16=0\/vs.length=0
 ·rw[if_pos h0]
  by_cases h1:0<ins.length/\nv bs (ni bs i)%2=1
  ·rw[if_pos h1]
   have:=CH f hR hP hn xaa h1.2 h0
   rw[e1] at this ⊢
   exact this
  ·rw[if_neg h1]
   by_cases h2:0<ins.length
   ·rw[if_pos h2]
    exact pF f hR hP hn (.inr ⟨by omega,λc=>h1 ⟨h2,c⟩,rfl⟩) h0
   ·rw[if_neg h2]
    exact pF f hR hP hn (.inl ⟨by omega,rfl⟩) h0
 ·rw[if_neg h0]
  have hv:0<vs.length:=xaa
  have hx:nv bs i%16<16:=Nat.mod_lt _ xaa
  have hm:=hL _ (Nat.mod_lt (nv bs (ni bs i)) hv)
  by_cases c9:nv bs i%16<9
  ·rw[if_pos c9]
   refine Ai f hR hP hn hv rfl ?_
   rcases (by omega:nv bs i%16=1\/nv bs i%16=2\/nv bs i%16=3\/nv bs i%16=4\/nv bs i%16=5\/nv bs i%16=6\/nv bs i%16=7\/nv bs i%16=8) with e|e|e|e|e|e|e|e
   all_goals (rw[e];decide)
  rw[if_neg c9]
  by_cases c:nv bs i%16=9
  ·rw[if_pos c]
   exact pE f hR hP hn hv rfl (.inl ⟨c,rfl,rfl⟩)
  rw[if_neg c]
  by_cases c:nv bs i%16=10
  ·rw[if_pos c]
   exact Ag f hR hP hn hv rfl c
  rw[if_neg c]
  by_cases c:nv bs i%16=11
  ·rw[if_pos c]
   exact pE f hR hP hn hv rfl (.inr (.inl ⟨c,rfl,rfl⟩))
  rw[if_neg c]
  by_cases c:nv bs i%16=12
  ·rw[if_pos c]
   exact xU f hR hP hn hv xaa xaa xaa c
  rw[if_neg c]
  by_cases c:nv bs i%16=13
  ·rw[if_pos c]
   exact pE f hR hP hn hv rfl (.inr (.inr ⟨c,rfl,rfl⟩))
  rw[if_neg c]
  by_cases b:iZ vs 1 (nv bs (ni bs (ni bs i)))<0
  ·rw[if_pos b]
   exact xS f hR hP hn hv rfl b xaa
  rw[if_neg b]
  by_cases c:nv bs i%16=14
  ·rw[if_pos c]
   exact xT f hR hP hn hv rfl xaa c
  rw[if_neg c]
  exact Af f hR hP hn hv rfl xaa xaa
theorem wD (vs:List Vl)(j:Nat):(vd (vs.map sv) j).len=(vd vs j).len:=by
 exact xhv
theorem ud (vs:List Vl)(q:Int)(fr:Nat):∀m k,li (vs.map sv) q fr m k=li vs q fr m k
 |0,_=>rfl
 |m+1,k=>by
  rw[li,li,ud vs q fr m (k+1),List.length_map]
  rw[show((vs.map sv).getD ((fr+k)%vs.length) Vl.zero).len=(vs.getD ((fr+k)%vs.length) Vl.zero).len from wD vs _]
theorem AN (vs:List Vl)(q:Int)(fr:Nat):iZ (vs.map sv) q fr=iZ vs q fr:=by
 unfold iZ
 rw[ud,List.length_map]
theorem AO (ins:List Int)(vs:List Vl)(bs:List Int)(i:Nat):gwM ins (vs.map sv) bs i=gwM ins vs bs i:=by
 unfold gwM
 simp only[List.length_map,wD,AN]
theorem sD {i:Nat}(hi:∀k,k<ins.length->1<=ins.getD k 0/\ins.getD k 0<=1000)(hL:∀k,k<vs.length->1<=(vd vs k).len/\(vd vs k).len<=1000):1<=(gwM ins vs bs i).1.len/\(gwM ins vs bs i).1.len<=1000:=by
 unfold gwM
 by_cases h0:nv bs i%16=0\/vs.length=0
 ·rw[if_pos h0]
  split
  ·rename_i h1
   exact hi _ (Nat.mod_lt _ h1.1)
  ·simp only;omega
 ·rw[if_neg h0]
  have hm:=hL _ (Nat.mod_lt (nv bs (ni bs i)) (by omega:0<vs.length))
  repeat' split
  all_goals (simp only;omega)
end
section
open Go.RowKit Flt
attribute [local go_sem] eD eB eA
variable {w0 W':World} {p P B n cap i m g c i':Nat} {b0 b1 b2 u1 u2 u3:Value} {a:Option Addr} {bs ins outs ins' outs':List Int} {vs vs':List Vl} {S:Nat->Prop}
theorem fk (w:World){ops:Array Oper}{rest:List Oper}{o:Oper}{a:Act}{Q:Exit->Act->World->Prop}(hgd:o.guard=none)(s x:Operand)
  (ho:o.op=.call {callee:=.builtin .append,args:=#[s,x],argTypes:=#[23,23]})
  (B:Nat) (v:Value) (js:List Int) (hs:a.eval s=v) (hown:w.ownsRow B 3 1 v js.length (js.map (Value.int .i64)))
  (ad:Addr) (y:Int) (hx:a.eval x=.slice (some ad) 1 1) (hnews:w.cell? ad=some (.int .i64 y))
  (h63:js.length+1<=1000000) (hbase:B<=w.heap.size)
  (h:∀g cap n w',n=(js++[y]).length->w'.ownsRow B 3 1 (.slice (some ⟨g,0,none⟩) n cap) n ((js++[y]).map (Value.int .i64))->Chg (λb=>v.ownBlock=some b) w w'->(v.ownBlock=some g\/g=w.heap.size)->wpList prog ops Q rest (a.put o.dst (.slice (some ⟨g,0,none⟩) n cap)) w'):wpList prog ops Q (o::rest) a w:=by
 obtain⟨i0,hi,hz0,hz1,hz2⟩:=info_parts oi
 refine wpList_append_lies w hgd s x 23 ho B 3 i0 (.int .i64 0) 1 8 underlying23 hi hz0 hz1 hz2 rfl xab v js.length _ hs hown ad 1 1 [.int .i64 y] hx rfl ?_ ?_ xab (by unfold maxLen;omega) xaa hbase _ rfl ?_
 ·exact xef
 ·intro u hu;simp at hu;subst hu;rfl
 ·exact xds
structure Dx (w0 W:World)(P:Nat)(a:Option Addr)(n cap i:Nat)(bs:List Int)(u1 u2 u3:Value)(ins:List Int)(vs:List Vl)(outs:List Int):Prop where
 rd:RdF W P a n cap i bs
 dg:DG W (w0.heap.size+2) u1 u2 u3 ins vs outs
 bx:RB W (w0.heap.size+1) u1 u2 u3
 rs:RB W w0.heap.size gL gL gL
 p0:P<w0.heap.size
 k0:Kept P (P+1) w0 W
theorem Dx.step {W:World}(f:Dx w0 W P a n cap i bs u1 u2 u3 ins vs outs)(hR:RdF W' P a n cap i' bs)(k:Kept P (P+1) W W'):Dx w0 W' P a n cap i' bs u1 u2 u3 ins vs outs:=
 ⟨hR,f.dg.kept k (by have:=f.p0;omega),f.bx.kept k (by have:=f.p0;omega),f.rs.kept k (by have:=f.p0;omega),f.p0,f.k0.trans k⟩
theorem Dx.keep {W:World}(f:Dx w0 W P a n cap i bs u1 u2 u3 ins vs outs)(k:Kept 0 0 W W'):Dx w0 W' P a n cap i bs u1 u2 u3 ins vs outs:=f.step (f.rd.keep0 k) (e8 k)
theorem Dx.next {W:World}(f:Dx w0 W P a n cap i bs u1 u2 u3 ins vs outs):
  Calls prog 19 #[.pointer (some ⟨P,0,none⟩)] W λe W'=>e=.returned (.int .i64 (nv bs i:Int))/\Dx w0 W' P a n cap (ni bs i) bs u1 u2 u3 ins vs outs:=
 (iu W P a n cap i bs f.rd).mono λ_ _ q=>⟨q.1,f.step q.2.1 q.2.2.1⟩
theorem Dx.start (hR:RdF w0 P a n cap i bs):Dx w0 ((w0.alloc eZ).alloc eZ) P a n cap i bs gL gL gL [] [] []:=by
 have k1:=ez 0 0 w0 eZ
 have k2:=ez 0 0 (w0.alloc eZ) eZ
 have hb:=fZ (w0.alloc eZ)
 rw[show(w0.alloc eZ).heap.size=w0.heap.size+1 by simp] at hb
 refine⟨hR.keep0 (k1.trans k2),⟨yav _ _ _ _,yav _ _ _ _,yav _ _ _ _,?_,?_,?_,?_,by simp⟩,hb,(fZ w0).keep k2,hR.lt,e8 (k1.trans k2)⟩
 ·intro b h;cases h
 ·intro b h;cases h
 ·intro b h;cases h
 ·intro v h;cases h
theorem Dx.set {W:World}{W2:World}{v1 v2 v3:Value}(f:Dx w0 W P a n cap i bs u1 u2 u3 ins vs outs)(c:Chg S W W')(hS:∀b,S b->b=P\/w0.heap.size+2<=b)(hR:RdF W' P a n cap i' bs)(hd:DG W' (w0.heap.size+2) v1 v2 v3 ins' vs' outs')(k:Kept (w0.heap.size+1) (w0.heap.size+1+1) W' W2)(hb:RB W2 (w0.heap.size+1) v1 v2 v3):Dx w0 W2 P a n cap i' bs v1 v2 v3 ins' vs' outs':=by
 have hp:=f.p0
 have e:∀o,W'.cell? ⟨w0.heap.size,o,none⟩=W.cell? ⟨w0.heap.size,o,none⟩:=λo=>c.cell (p:=⟨w0.heap.size,o,none⟩) f.rs.sz (λq=>by have:=hS _ q;simp at this;omega)
 have ef:∀o,W'.frozen? ⟨w0.heap.size,o,none⟩=W.frozen? ⟨w0.heap.size,o,none⟩:=λo=>c.frozen (p:=⟨w0.heap.size,o,none⟩) f.rs.sz (λq=>by have:=hS _ q;simp at this;omega)
 have hr:RB W' w0.heap.size gL gL gL:=⟨yaj f.rs.sz c.size,by rw[e];exact f.rs.q0,by rw[e];exact f.rs.q1,by rw[e];exact f.rs.q2,by rw[ef];exact f.rs.f0,by rw[ef];exact f.rs.f1,by rw[ef];exact f.rs.f2⟩
 refine⟨hR.keep k (.inl xaa),hd.kept k xaa,hb,hr.kept k xaa,hp,⟨k.os.trans (c.os.trans f.k0.os),k.tape.trans (c.tape.trans f.k0.tape),k.output.trans (c.output.trans f.k0.output),yan f.k0.size (yan c.size k.size),λb hb hn=>?_⟩⟩
 have h1:=f.k0.size
 have h2:=c.size
 rw[k.block b xaa xaa,c.block b xaa (λq=>by have:=hS b q;omega)]
 exact f.k0.block b hb hn
theorem iO {W:World}(t:RB W p b0 b1 b2)(c:Chg S W W')(hp:¬S p):RB W' p b0 b1 b2:=
 have e:∀o,W'.cell? ⟨p,o,none⟩=W.cell? ⟨p,o,none⟩:=λo=>c.cell (p:=⟨p,o,none⟩) t.sz hp
 have ef:∀o,W'.frozen? ⟨p,o,none⟩=W.frozen? ⟨p,o,none⟩:=λo=>c.frozen (p:=⟨p,o,none⟩) t.sz hp
 ⟨yaj t.sz c.size,by rw[e];exact t.q0,by rw[e];exact t.q1,by rw[e];exact t.q2,by rw[ef];exact t.f0,by rw[ef];exact t.f1,by rw[ef];exact t.f2⟩
theorem l7 {W:World}(t:RB W p b0 b1 b2)(x y z:Value):RB (fe W p x y z) p x y z:=by
 obtain⟨y0,y1,y2⟩:=eY W p _ _ _ t.q0 t.q1 t.q2 x y z
 have k:=fc W p x y z
 refine⟨yaj t.sz k.size,y0,y1,y2,?_,?_,?_⟩
 ·unfold fe;simp[t.f0]
 ·unfold fe;simp[t.f1]
 ·unfold fe;simp[t.f2]
theorem sE {W:World}(t:RB W p b0 b1 b2)(x:Value):RB (W.setCell ⟨p,0,none⟩ x) p x b1 b2/\RB (W.setCell ⟨p,2,none⟩ x) p b0 b1 x:=by
 refine⟨⟨by simpa using t.sz,fR _ _ _ _ _ t.q0,by rw[eW _ _ _ _ _ _ (.inr xaa)];exact t.q1,by rw[eW _ _ _ _ _ _ (.inr xaa)];exact t.q2,by simp[t.f0],by simp[t.f1],by simp[t.f2]⟩,⟨by simpa using t.sz,by rw[eW _ _ _ _ _ _ (.inr xaa)];exact t.q0,by rw[eW _ _ _ _ _ _ (.inr xaa)];exact t.q1,fR _ _ _ _ _ t.q2,by simp[t.f0],by simp[t.f1],by simp[t.f2]⟩⟩
theorem DG.vals {W:World}(f:DG W B u1 u2 u3 ins vs outs)(c9:Chg (λb=>u2.ownBlock=some b) W W')(ho:W'.ownsRow B 35 6 (.slice (some ⟨g,0,none⟩) m c) m (fp vs'))(hm:m=vs'.length)(hg:u2.ownBlock=some g\/W.heap.size<=g)(hk:∀v∈vs',v.k<18446744073709551616):DG W' B u1 (.slice (some ⟨g,0,none⟩) m c) u3 ins vs' outs:=by
 subst hm
 refine⟨fj f.r1 c9 λb hb hc=>f.a12 b hb hc,ho,fj f.r3 c9 λb hb hc=>f.a23 b hc hb,?_,f.a13,?_,hk,yan f.sz c9.size⟩
 ·intro b hb hc
  have e:b=g:=by simpa[Value.ownBlock] using hc.symm
  subst e
  rcases hg with c|c
  ·exact f.a12 _ hb c
  ·have:=(eG f.r1 hb).2;omega
 ·intro b hb hc
  have e:b=g:=by simpa[Value.ownBlock] using hb.symm
  subst e
  rcases hg with c|c
  ·exact f.a23 _ c hc
  ·have:=(eG f.r3 hc).2;omega
theorem DG.ins_ {W:World}(f:DG W B u1 u2 u3 ins vs outs)(c9:Chg (λb=>u1.ownBlock=some b) W W')(ho:W'.ownsRow B 3 1 (.slice (some ⟨g,0,none⟩) m c) m (ins'.map (Value.int .i64)))(hm:m=ins'.length)(hg:u1.ownBlock=some g\/W.heap.size<=g):DG W' B (.slice (some ⟨g,0,none⟩) m c) u2 u3 ins' vs outs:=by
 subst hm
 refine⟨ho,fj f.r2 c9 λb hb hc=>f.a12 b hc hb,fj f.r3 c9 λb hb hc=>f.a13 b hc hb,?_,?_,f.a23,f.k,yan f.sz c9.size⟩
 ·intro b hb hc
  have e:b=g:=by simpa[Value.ownBlock] using hb.symm
  subst e
  rcases hg with c|c
  ·exact f.a12 _ c hc
  ·have:=(eG f.r2 hc).2;omega
 ·intro b hb hc
  have e:b=g:=by simpa[Value.ownBlock] using hb.symm
  subst e
  rcases hg with c|c
  ·exact f.a13 _ c hc
  ·have:=(eG f.r3 hc).2;omega
theorem DG.outs_ {W:World}(f:DG W B u1 u2 u3 ins vs outs)(c9:Chg (λb=>u3.ownBlock=some b) W W')(ho:W'.ownsRow B 3 1 (.slice (some ⟨g,0,none⟩) m c) m (outs'.map (Value.int .i64)))(hm:m=outs'.length)(hg:u3.ownBlock=some g\/W.heap.size<=g):DG W' B u1 u2 (.slice (some ⟨g,0,none⟩) m c) ins vs outs':=by
 subst hm
 refine⟨fj f.r1 c9 λb hb hc=>f.a13 b hb hc,fj f.r2 c9 λb hb hc=>f.a23 b hb hc,ho,f.a12,?_,?_,f.k,yan f.sz c9.size⟩
 ·intro b hb hc
  have e:b=g:=by simpa[Value.ownBlock] using hc.symm
  subst e
  rcases hg with c|c
  ·exact f.a13 _ hb c
  ·have:=(eG f.r1 hb).2;omega
 ·intro b hb hc
  have e:b=g:=by simpa[Value.ownBlock] using hc.symm
  subst e
  rcases hg with c|c
  ·exact f.a23 _ hb c
  ·have:=(eG f.r2 hb).2;omega
theorem Dx.put {w0 W:World}{P:Nat}{a:Option Addr}{n cap i:Nat}{bs:List Int}{a1 a2 a3:Option Addr}{n1 c1 c2 n3 c3:Nat}{ins:List Int}{vs:List Vl}{outs:List Int}{W1:World}(f:Dx w0 W P a n cap i bs (.slice a1 n1 c1) (.slice a2 vs.length c2) (.slice a3 n3 c3) ins vs outs)(k:Kept 0 0 W W1)(v:Vl)(hv:v.k<18446744073709551616)(hn:vs.length<=100000):
  Calls prog 24 #[eR a1 n1 c1 a2 vs.length c2 a3 n3 c3,v.agg] W1 λe W9=>∃g' cap',e=.returned (eR a1 n1 c1 (some ⟨g',0,none⟩) (vs.length+1) cap' a3 n3 c3)/\RB W9 (w0.heap.size+1) (.slice a1 n1 c1) (.slice a2 vs.length c2) (.slice a3 n3 c3)/\Dx w0 (fe W9 (w0.heap.size+1) (.slice a1 n1 c1) (.slice (some ⟨g',0,none⟩) (vs.length+1) cap') (.slice a3 n3 c3)) P a n cap i bs (.slice a1 n1 c1) (.slice (some ⟨g',0,none⟩) (vs.length+1) cap') (.slice a3 n3 c3) ins (vs++[v]) outs:=by
 have f1:=f.keep k
 have hp:=f.p0
 refine(oj W1 a1 a2 a3 n1 c1 c2 n3 c3 (w0.heap.size+2) vs v f1.dg.r2 f1.dg.sz xaa).mono ?_
 rintro e W9 ⟨g',cap',rfl,hown,hs⟩
 have hB:∀b,(Value.slice a2 vs.length c2).ownBlock=some b->w0.heap.size+2<=b:=λb hb=>(eG f1.dg.r2 hb).1
 have c9:Chg (λb=>(Value.slice a2 vs.length c2).ownBlock=some b) W1 W9:=⟨hs.chg.os,hs.chg.tape,hs.chg.output,hs.chg.size,λb hb hn=>hs.chg.block b hb (by rintro (c|c);exact c;exact hn c)⟩
 have hg:(Value.slice a2 vs.length c2).ownBlock=some g'\/W1.heap.size<=g':=by
  exact xfe
 have hk:∀u∈vs++[v],u.k<18446744073709551616:=λu hu=>by
  exact xee
 have hb:=iO f1.bx c9 (λc=>by have:=hB _ c;omega)
 exact⟨g',cap',rfl,hb,f1.set c9 (λb hb=>.inr (hB b hb)) (nN f1.rd c9 λb hb=>by have:=hB b hb;omega) (f1.dg.vals c9 hown xac hg hk) (fc _ _ _ _ _) (l7 hb _ _ _)⟩
theorem Dx.grow {W:World}{a1 a2 a3:Option Addr}{n1 c1 c2 n3 c3:Nat}(f:Dx w0 W P a n cap i bs (.slice a1 n1 c1) (.slice a2 vs.length c2) (.slice a3 n3 c3) ins vs outs)(hn:vs.length<=100000)(hL:∀k,k<vs.length->1<=(vd vs k).len/\(vd vs k).len<=1000):
  Calls prog 28 #[eR a1 n1 c1 a2 vs.length c2 a3 n3 c3,.pointer (some ⟨P,0,none⟩)] W λe W9=>∃v g' cap',e=.returned (eR a1 n1 c1 (some ⟨g',0,none⟩) (vs.length+1) cap' a3 n3 c3)/\sv v=(gwM ins vs bs i).1/\RB W9 (w0.heap.size+1) (.slice a1 n1 c1) (.slice a2 vs.length c2) (.slice a3 n3 c3)/\Dx w0 (fe W9 (w0.heap.size+1) (.slice a1 n1 c1) (.slice (some ⟨g',0,none⟩) (vs.length+1) cap') (.slice a3 n3 c3)) P a n cap (gwM ins vs bs i).2 bs (.slice a1 n1 c1) (.slice (some ⟨g',0,none⟩) (vs.length+1) cap') (.slice a3 n3 c3) ins (vs++[v]) outs:=by
 have hp:=f.p0
 refine(EX f.dg f.rd xaa hn hL).mono ?_
 rintro e W9 ⟨v,g',cap',rfl,hsv,hd,hr,hc,hg⟩
 have hB:∀b,(Value.slice a2 vs.length c2).ownBlock=some b->w0.heap.size+2<=b:=λb hb=>(eG f.dg.r2 hb).1
 have hb:=iO f.bx hc (by rintro (c|c);omega;have:=hB _ c;omega)
 exact⟨v,g',cap',rfl,hsv,hb,f.set hc (by rintro b (c|c);exact .inl c;exact .inr (hB b c)) hr hd (fc _ _ _ _ _) (l7 hb _ _ _)⟩
theorem Dx.ins_ {W:World}{x:Int}(f:Dx w0 W P a n cap i bs u1 u2 u3 ins vs outs)(c9:Chg (λb=>u1.ownBlock=some b) W W')(ho:W'.ownsRow (w0.heap.size+2) 3 1 (.slice (some ⟨g,0,none⟩) m c) m ((ins++[x]).map (Value.int .i64)))(hm:m=(ins++[x]).length)(hg:u1.ownBlock=some g\/g=W.heap.size):Dx w0 (W'.setCell ⟨w0.heap.size+1,0,none⟩ (.slice (some ⟨g,0,none⟩) m c)) P a n cap i bs (.slice (some ⟨g,0,none⟩) m c) u2 u3 (ins++[x]) vs outs:=by
 have hp:=f.p0
 have hB:∀b,u1.ownBlock=some b->w0.heap.size+2<=b:=λb hb=>(eG f.dg.r1 hb).1
 have hb:=iO f.bx c9 (λc=>by have:=hB _ c;omega)
 exact f.set c9 (λb hb=>.inr (hB b hb)) (nN f.rd c9 λb hb=>by have:=hB b hb;omega) (f.dg.ins_ c9 ho hm (hg.imp id λe=>Nat.le_of_eq e.symm)) (eL W' ⟨_,0,none⟩ _ yac) (sE hb _).1
theorem Dx.outs_ {W:World}{x:Int}(f:Dx w0 W P a n cap i bs u1 u2 u3 ins vs outs)(c9:Chg (λb=>u3.ownBlock=some b) W W')(ho:W'.ownsRow (w0.heap.size+2) 3 1 (.slice (some ⟨g,0,none⟩) m c) m ((outs++[x]).map (Value.int .i64)))(hm:m=(outs++[x]).length)(hg:u3.ownBlock=some g\/g=W.heap.size):Dx w0 (W'.setCell ⟨w0.heap.size+1,2,none⟩ (.slice (some ⟨g,0,none⟩) m c)) P a n cap i bs u1 u2 (.slice (some ⟨g,0,none⟩) m c) ins vs (outs++[x]):=by
 have hp:=f.p0
 have hB:∀b,u3.ownBlock=some b->w0.heap.size+2<=b:=λb hb=>(eG f.dg.r3 hb).1
 have hb:=iO f.bx c9 (λc=>by have:=hB _ c;omega)
 exact f.set c9 (λb hb=>.inr (hB b hb)) (nN f.rd c9 λb hb=>by have:=hB b hb;omega) (f.dg.outs_ c9 ho hm (hg.imp id λe=>Nat.le_of_eq e.symm)) (eL W' ⟨_,2,none⟩ _ yac) (sE hb _).2
end
section
open Go.RowKit Flt
attribute [local go_sem] eD eB eA m9
variable {b B:Option Addr} {base c n g s d:Nat} {xs:List Int}
def Sl (b:Option Addr)(n c g:Nat):Prop:=(b=none/\n=0/\c=0)\/b=some ⟨g,0,none⟩
theorem Sl.pos (h:Sl b n c g)(hn:0<n):b=some ⟨g,0,none⟩:=by
 rcases h with⟨_,h0,_⟩|h
 ·omega
 ·exact h
theorem Sl.ni {w:World}(h:Sl b n c g)(f:IBk w g n xs):LsI w b n c xs:=⟨f.len,h.imp id λe=>⟨g,e,f.lt,λk hk=>f.at_ k (by rw[<-f.len];exact hk)⟩⟩
theorem AQ {W:World}(h:W.ownsRow base 3 1 (.slice B n d) n (xs.map (Value.int .i64)))(hl:xs.length=n)(g:IBk W s 0 []):∃G,IBk W G n xs/\Sl B n d G/\((G=s/\B=none)\/(base<=G/\B=some ⟨G,0,none⟩)):=by
 rcases h.2 with⟨e,h0⟩|⟨g',cap,cur,e,b1,_⟩
 ·cases e
  obtain rfl:=List.eq_nil_of_length_eq_zero hl
  exact⟨s,g,.inl ⟨rfl,rfl,rfl⟩,.inl ⟨rfl,rfl⟩⟩
 ·cases e
  exact⟨g',v9 h hl,.inr rfl,.inr ⟨b1,rfl⟩⟩
theorem Dc {W:World}{vs:List Vl}(h:W.ownsRow base 35 6 (.slice B n d) n (fp vs))(hl:vs.length=n)(g:IBk W s 0 []):∃G,VA W G n vs/\Sl B n d G/\((G=s/\B=none)\/(base<=G/\B=some ⟨G,0,none⟩)):=by
 rcases h.2 with⟨e,h0⟩|⟨g',cap,cur,e,b1,_⟩
 ·cases e
  obtain rfl:=List.eq_nil_of_length_eq_zero hl
  exact⟨s,⟨rfl,g.lt,λk hk=>by omega,g.free⟩,.inl ⟨rfl,rfl,rfl⟩,.inl ⟨rfl,rfl⟩⟩
 ·cases e
  exact⟨g',(uO h hl).1,.inr rfl,.inr ⟨b1,rfl⟩⟩
theorem AR {a b t:Nat}{A:Option Addr}{m e:Nat}(hA:(a=s/\A=none)\/(base<=a/\A=some ⟨a,0,none⟩))(hB:(b=t/\B=none)\/(base<=b/\B=some ⟨b,0,none⟩))(hs:s≠t/\s<base/\t<base)(ap:Apart (.slice A n d) (.slice B m e)):a≠b:=by
 rcases hA with⟨h1,_⟩|⟨h1,rfl⟩<;>rcases hB with⟨h2,_⟩|⟨h2,rfl⟩
 ·omega
 ·omega
 ·omega
 ·intro c
  exact ap a rfl (by rw[c];rfl)
structure OpF (w W:World)(O R:Nat)(B1 B3:Option Addr)(G1 n1 d1 G2 n2 d2 G3 n3 d3:Nat)(ins:List Int)(M:List Vl×List Int):Prop where
 pg:PG W G1 G2 G3 n1 n2 n3 ins M.1 M.2
 kb:Kb M.1
 out:RB W O (.slice B1 n1 d1) (.slice (some ⟨G2,0,none⟩) n2 d2) (.slice B3 n3 d3)
 res:RB W R (.slice none 0 0) (.slice none 0 0) (.slice none 0 0)
 ne:G1≠R/\G2≠R/\G3≠R
 ke:Kept 0 0 w W
theorem De {w W W' W2:World}{O R G1 n1 d1 G2 n2 d2 G3 n3 d3 G2' n2' c2':Nat}{B1 B2 B3:Option Addr}{ins:List Int}{M:List Vl×List Int}(out:RB W O (.slice B1 n1 d1) (.slice B2 n2 d2) (.slice B3 n3 d3))(res:RB W R (.slice none 0 0) (.slice none 0 0) (.slice none 0 0))(ne:(G1≠O/\G2≠O/\G3≠O)/\(G1≠R/\G2≠R/\G3≠R)/\O≠R)(lo:w.heap.size<=O/\w.heap.size<=G2/\w.heap.size<=G3)(ke:Kept 0 0 w W)(k:Kept 0 0 W W')
  (hp:PG W2 G1 G2' G3 n1 n2' n3 ins M.1 M.2) (hk:Kb M.1) (hc:Chg (λb=>b=G2\/b=G3) W' W2) (hg:G2'=G2\/W'.heap.size<=G2'):RB W2 O (.slice B1 n1 d1) (.slice B2 n2 d2) (.slice B3 n3 d3)/\OpF w (EV W2 O (.slice B1 n1 d1) (.slice (some ⟨G2',0,none⟩) n2' c2') (.slice B3 n3 d3)) O R B1 B3 G1 n1 d1 G2' n2' c2' G3 n3 d3 ins M:=by
 obtain⟨⟨e1,e2,e3⟩,⟨e4,e5,e6⟩,e7⟩:=ne
 have hO:=out.sz
 have hR:=res.sz
 have hz:=k.size
 have o2:=(out.keep k).keepC hc xaa
 have kp:=fc W2 O (.slice B1 n1 d1) (.slice (some ⟨G2',0,none⟩) n2' c2') (.slice B3 n3 d3)
 have cp:Chg (λb=>b=O) W2 (EV W2 O (.slice B1 n1 d1) (.slice (some ⟨G2',0,none⟩) n2' c2') (.slice B3 n3 d3)):=kp.chg1 rfl
 have hGO:G2'≠O:=by rcases hg with c|c<;>omega
 have hGR:G2'≠R:=by rcases hg with c|c<;>omega
 exact⟨o2,⟨hp.i.keep kp xaa,hp.v.keep kp xaa,hp.o.keep kp xaa,hp.d12,hp.d13,hp.d23⟩,hk,l7 o2 _ _ _,((res.keep k).keepC hc xaa).keepC cp xaa,⟨e4,hGR,e6⟩,(Chg.kept (S:=λb=>b=G2\/b=G3) (ke.trans k) hc (λi hi=>by omega)).new kp xaa⟩
def PRg (w:World)(n1 n3:Nat)(ins:List Int)(M:List Vl×List Int)(e:Ending)(w':World):Prop:=
 ∃B1 d1 G2 n2 d2 B3 d3,e=.returned (.tuple #[eR B1 n1 d1 (some ⟨G2,0,none⟩) n2 d2 B3 n3 d3,.int .i64 0])/\LsI w' B1 n1 d1 ins/\LsV w' (some ⟨G2,0,none⟩) n2 d2 M.1/\LsI w' B3 n3 d3 M.2/\(w.heap.size<=G2/\(∀g,B1=some ⟨g,0,none⟩->w.heap.size<=g)/\∀g,B3=some ⟨g,0,none⟩->w.heap.size<=g)/\Kb M.1/\Kept 0 0 w w'
theorem I8 (w:World)(b1 b2 b3 ap:Option Addr)(n1 c1 n2 c2 n3 c3 plo phi cp:Nat)(ins:List Int)(vs:List Vl)(outs:List Int)(h1:LsI w b1 n1 c1 ins)(h2:LsV w b2 n2 c2 vs)(h3:LsI w b3 n3 c3 outs)(hlt:Kb vs)(h:okG ins vs outs=true)(hp:IS w plo phi ap 1 [0]):
  Calls prog 13 #[eR b1 n1 c1 b2 n2 c2 b3 n3 c3,.slice ap 1 cp] w (PRg w n1 n3 ins (fY vs outs)):=by
 obtain⟨⟨hl1,hl2,hl3⟩,_,_,_,_⟩:=iQ h
 rw[h1.1] at hl1
 rw[h2.1] at hl2
 rw[h3.1] at hl3
 have k0:=ez 0 0 w (eP b1 n1 c1 b2 n2 c2 b3 n3 c3)
 have k0':=ez 0 0 (w.alloc (eP b1 n1 c1 b2 n2 c2 b3 n3 c3)) eZ
 have hK:=k0.trans k0'
 have HX:Hid _:=xq _ _ _ _ n1 c1 n2 c2 n3 c3 ins vs outs (GS.keep ⟨h1.is,h2.vs hlt,h3.is⟩ hK)
 rw[h] at HX
 have HI:Hid (∀W,Kept 0 0 w W->Calls prog 33 #[.int .i64 5,.slice ap 1 cp] W λe w'=>e=.returned (.bool true)/\W=w'):=λW kW=>C7 W _ _ ap 1 cp 5 [0] (hp.keep kW yaa) xaa
 have HPS:Hid _:=hp
 have HCP:Hid (∀W,Kept 0 0 w W->_):=λW kW=>Iu W b1 b2 b3 n1 c1 n2 c2 n3 c3 ins vs outs (h1.keep kW) (h2.keep kW) (h3.keep kW) xaa xaa xaa
 have HE:Hid (ins.length=n1/\vs.length=n2/\outs.length=n3):=⟨h1.1,h2.1,h3.1⟩
 have HB:Hid _:=(fE w (.slice b1 n1 c1) (.slice b2 n2 c2) (.slice b3 n3 c3)).keep k0'
 have HG:Hid _:=(vr w #[.slice b1 n1 c1,.slice b2 n2 c2,.slice b3 n3 c3] 26).keep k0' yaa
 have hN:=fZ (w.alloc (eP b1 n1 c1 b2 n2 c2 b3 n3 c3))
 rw[show(w.alloc (eP b1 n1 c1 b2 n2 c2 b3 n3 c3)).heap.size=w.heap.size+1 by simp] at hN
 have HN:Hid _:=hN
 have HK:Hid _:=hK
 have HZ1:Hid (((w.alloc (eP b1 n1 c1 b2 n2 c2 b3 n3 c3)).alloc eZ).heap.size=w.heap.size+1+1):=by show _=_;simp
 have HK0:Hid (Kb vs/\okG ins vs outs=true):=⟨hlt,h⟩
 clear hK h h1 h2 h3 hN hp k0 k0' hlt hl1 hl2 hl3
 obtain⟨_,p0,p1,p2⟩:=HB.out
 go_enter func13,ntmps13
 go_wp2_with fail
 clear p0 p1 p2
 generalize (w.alloc (eP b1 n1 c1 b2 n2 c2 b3 n3 c3)).alloc eZ=w1 at HB HN HK HX HZ1 HG ⊢
 refine yai HX.out ?_
 rintro e w2 ⟨rfl,k2⟩
 have HK2:Hid _:=HK.out.trans k2
 have HB2:Hid _:=HB.out.keep k2
 have HN2:Hid _:=HN.out.keep k2
 have HG2:Hid _:=HG.out.keep k2 yaa
 have HZ2:Hid (w.heap.size+1+1<=w2.heap.size):=by have:=k2.size;rw[HZ1.out] at this;exact this
 clear k2 HX HK HB HN HZ1 HG
 go_wp2_with fail
 refine yai (HI.out w2 HK2.out) ?_
 rintro e w3 ⟨rfl,rfl⟩
 go_wp2_with fail
 refine yai (xZ _) ?_
 rintro e w4 ⟨rfl,k4⟩
 have ka:=ez 0 0 w4 wy
 have HAP:Hid _:=AL w4
 have HK5:Hid _:=HK2.out.trans (k4.trans ka)
 have HB5:Hid _:=HB2.out.keep (k4.trans ka)
 have HN5:Hid _:=HN2.out.keep (k4.trans ka)
 have HG5:Hid _:=HG2.out.keep (k4.trans ka) yaa
 have HZ5:Hid (w.heap.size+1+1<=w4.heap.size/\(w4.alloc wy).heap.size=w4.heap.size+1):=⟨by have:=HZ2.out;have:=k4.size;omega,by simp⟩
 obtain⟨_,p0,p1,p2⟩:=HB5.out
 clear k4 ka HK2 HB2 HN2 HZ2 HG2
 go_wp2_with fail
 clear p0 p1 p2
 generalize w4.alloc wy=w5 at HAP HK5 HB5 HN5 HZ5 HG5 ⊢
 refine yai (HCP.out w5 HK5.out) ?_
 rintro e w6 ⟨B1,d1,B2,d2,B3,d3,rfl,⟨o1,o2,o3⟩,⟨a12,a13,a23⟩,⟨i1,i2⟩,k6⟩
 have kb:=ez 0 0 w6 (eP B1 n1 d1 B2 n2 d2 B3 n3 d3)
 have h5:=HZ5.out
 have h6:=k6.size
 have lt1:=i1.lt
 obtain⟨G1,f1,s1,u1⟩:=AQ o1 HE.out.1 i1
 obtain⟨G2,f2,s2,u2⟩:=Dc o2 HE.out.2.1 (HG5.out.keep k6 yaa)
 obtain⟨G3,f3,s3,u3⟩:=AQ o3 HE.out.2.2 i2
 have n12:=AR u1 u2 xaa a12
 have n13:=AR u1 u3 xaa a13
 have n23:=AR u2 u3 xaa a23
 have HPG:Hid (PG (w6.alloc (eP B1 n1 d1 B2 n2 d2 B3 n3 d3)) G1 G2 G3 n1 n2 n3 ins vs outs):=(PG.mk f1 f2 f3 n12 n13 n23).keep kb
 have HS:Hid (Sl B1 n1 d1 G1/\Sl B2 n2 d2 G2/\Sl B3 n3 d3 G3):=⟨s1,s2,s3⟩
 have g1:=f1.lt
 have g2:=f2.lt
 have g3:=f3.lt
 have HNE:Hid ((G1≠w6.heap.size/\G2≠w6.heap.size/\G3≠w6.heap.size)/\(G1≠w.heap.size+1/\G2≠w.heap.size+1/\G3≠w.heap.size+1)/\w6.heap.size≠w.heap.size+1):=⟨⟨by omega,by omega,by omega⟩,⟨by omega,by omega,by omega⟩,by omega⟩
 have HLO:Hid ((w.heap.size<=w6.heap.size/\w.heap.size<=G2/\w.heap.size<=G3)/\w.heap.size<=G1):=⟨⟨by omega,by omega,by omega⟩,by omega⟩
 have HOB:Hid _:=vq w6 (.slice B1 n1 d1) (.slice B2 n2 d2) (.slice B3 n3 d3)
 have HRB:Hid _:=HN5.out.keep (k6.trans kb)
 have HA7:Hid _:=HAP.out.keepC (S:=λ_=>False) (k6.trans kb).chg id
 have HK7:Hid _:=HK5.out.trans (k6.trans kb)
 clear o1 o2 o3 a12 a13 a23 i1 i2 k6 kb h5 h6 lt1 f1 f2 f3 s1 s2 s3 u1 u2 u3 n12 n13 n23 g1 g2 g3 HAP HK5 HB5 HN5 HCP HI HG5
 go_wp2_with fail
 generalize w6.alloc (eP B1 n1 d1 B2 n2 d2 B3 n3 d3)=w7 at HPG HOB HRB HA7 HK7 ⊢
 go_loopw [28] (λx W=>∃k:Nat,k<=1/\x=.int .i64 k/\Hid (k=0->W=w7)/\Hid (k=1->∃G n d,OpF w W w6.heap.size (w.heap.size+1) B1 B3 G1 n1 d1 G n d G3 n3 d3 ins (fY vs outs)/\w.heap.size<=G)) (λx _=>1-(intOf x).toNat)
 case atStart=>exact⟨0,Nat.zero_le _,rfl,λ_=>rfl,λc=>by omega⟩
 case round=>
  obtain⟨k,hk,rfl,hI,hJ⟩:=hrel
  rcases (by omega:k=0\/k=1) with rfl|rfl
  ·obtain rfl:=hI.out rfl
   clear hI hJ hk
   obtain⟨gp,op,kk,rfl,ek,_,_,cP⟩:=(IS.keep HPS.out HK7.out yaa).at_idx (o:=0) xaa xaa
   obtain rfl:kk=0:=xaa
   have cP':wr.cell? ⟨gp,op,none⟩=some (.int .i64 0):=cP
   obtain⟨_,r0,r1,r2,f0,f1,f2⟩:=HOB.out
   obtain⟨_,a0,a1,a2,a3,a4⟩:=HA7.out
   have HCL:Hid (∀W',Kept 0 0 wr W'->_):=λW' kW=>It W' B1 B2 B3 G1 n1 d1 G2 n2 d2 G3 n3 d3 ins vs outs (HPG.out.keep kW) HK0.out.2 HK0.out.1 HS.out.2.1.pos HS.out.2.2.pos
   have HPN:Hid (∀W' W2 G2' n2' c2',Kept 0 0 wr W'->_->_->_->_->_):=λW' W2 G2' n2' c2' kW x1 x3 x4 x5=>De (ins:=ins) (W':=W') (W2:=W2) (G2':=G2') (n2':=n2') (c2':=c2') (M:=fY vs outs) HOB.out HRB.out HNE.out HLO.out.1 HK7.out kW x1 x3 x4 x5
   have HZ:Hid (w.heap.size<=wr.heap.size):=HK7.out.size
   clear cP ek
   go_wp2_with fail
   go_region_with ((go_at_call 62;refine yai (HCL.out _ (eC wr)) ?_;rintro e w8 ⟨G2',n2',c2',us',rfl,z1,rfl,z3,z4,z5⟩;obtain⟨rb8,pi8⟩:=HPN.out _ w8 G2' n2' c2' (eC wr) z1 z3 z4 z5;obtain⟨_,j0,j1,j2,h0,h1,h2⟩:=rb8;have R:Hid _:=pi8;have R2:Hid (w.heap.size<=G2'):=(by have:=HZ.out;have:=HLO.out;have:wr.drew.heap.size=wr.heap.size:=rfl;show _<=_;omega);clear pi8 z1 z3 z4 z5))
   all_goals
    go_wp2
    go_roundw
    case rel=>exact⟨1,by omega,by go_num,λc=>by omega,λ_=>⟨_,_,_,R.out,R2.out⟩⟩
    case measure=>simp[intOf]
  ·obtain⟨G,n,d,hF,hG⟩:=hJ.out rfl
   obtain⟨_,r0,r1,r2,f0,f1,f2⟩:=hF.out
   obtain⟨_,s0,s1,s2,v0,v1,v2⟩:=hF.res
   have HF:Hid _:=hF
   have HGz:Hid _:=hG
   clear hF hI hJ hG
   go_wp2_with fail
   obtain⟨y0,y1,y2⟩:=eY wr (w.heap.size+1) _ _ _ s0 s1 s2 (.slice B1 n1 d1) (.slice (some ⟨G,0,none⟩) n d) (.slice B3 n3 d3)
   have kp:=fc wr (w.heap.size+1) (.slice B1 n1 d1) (.slice (some ⟨G,0,none⟩) n d) (.slice B3 n3 d3)
   have hne:=HF.out.ne
   have hlo:=HLO.out
   refine yay (v:=.tuple #[eR B1 n1 d1 (some ⟨G,0,none⟩) n d B3 n3 d3,.int .i64 0]) (by simp[results,results13,go_sem,y0,y1,y2]) rfl ⟨B1,d1,G,n,d,B3,d3,rfl,HS.out.1.ni (HF.out.pg.i.keep kp xaa),⟨HF.out.pg.v.len,.inr ⟨G,rfl,HF.out.pg.v.keep kp xaa⟩⟩,HS.out.2.2.ni (HF.out.pg.o.keep kp xaa),⟨HGz.out,λg e=>?_,λg e=>?_⟩,HF.out.kb,HF.out.ke.new kp xaa⟩
   ·rcases HS.out.1 with⟨c,_⟩|c<;>rw[c] at e<;>cases e
    omega
   ·rcases HS.out.2.2 with⟨c,_⟩|c<;>rw[c] at e<;>cases e
    omega
end
section
open Go.RowKit Flt
attribute [local go_sem] eD eB eA
variable {p k T O base i n2 g9 cap9 m:Nat} {W7 w9 wE w6:World} {b0 b1 b2 u2 u1 ov vv:Value} {xs:List Int} {S:List Vl×List Int} {x:Int} {o:Obj}
theorem AS {vs:List Vl}{outs:List Int}{b:Bool}(hb:(ndG outs (ndS vs outs k) (vs.length-1-k)).getD (vs.length-1-k) false=b):ndS vs outs (k+1)=if b=true then fJ (ndG outs (ndS vs outs k) (vs.length-1-k)) (eN (vs.getD (vs.length-1-k) Vl.zero)) else ndG outs (ndS vs outs k) (vs.length-1-k):=by
 rw[ndS,hb]
theorem ue {F:List Bool}{os:List Int}(h:F.getD i false=true):(fJ F os).getD i false=true:=by
 have hi:i<F.length:=by
  exact xhi
 rw[gV _ _ _ hi,h,Bool.true_or]
def SPo (w:World)(n1 n3:Nat)(ins:List Int)(M:List Vl×List Int)(e:Ending)(w':World):Prop:=
 ∃a1 d1 a2 n2 d2 a3 d3 us,e=.returned (eR a1 n1 d1 a2 n2 d2 a3 n3 d3)/\GS w' a1 n1 a2 n2 a3 n3 ins us M.2/\Lk us M.1/\Kept 0 0 w w'
structure DS (W w6:World)(T O n2 base:Nat)(u1:Value)(S:List Vl×List Int)(vv:Value):Prop where
 tq:IR W T S.2
 tl:S.2.length=n2
 ob:RB W O u1 vv (.slice none 0 0)
 own:W.ownsRow base 35 6 vv S.1.length (fp S.1)
 ch:Chg (λb=>b=T\/b=O\/base<=b) w6 W
 bz:base<=W.heap.size
theorem RB.put1 {W:World}(t:RB W p b0 b1 b2)(v:Value):RB (W.setCell ⟨p,1,none⟩ v) p b0 v b2:=
 ⟨by simpa using t.sz,by rw[eW _ _ _ _ _ _ (.inr xaa)];exact t.q0,fR _ _ _ _ _ t.q1,by rw[eW _ _ _ _ _ _ (.inr xaa)];exact t.q2,by simp[t.f0],by simp[t.f1],by simp[t.f2]⟩
theorem RB.put2 {W:World}(t:RB W p b0 b1 b2)(v:Value):RB (W.setCell ⟨p,2,none⟩ v) p b0 b1 v:=
 ⟨by simpa using t.sz,by rw[eW _ _ _ _ _ _ (.inr xaa)];exact t.q0,by rw[eW _ _ _ _ _ _ (.inr xaa)];exact t.q1,fR _ _ _ _ _ t.q2,by simp[t.f0],by simp[t.f1],by simp[t.f2]⟩
theorem DS.mid {W:World}(f:DS W w6 T O n2 base u1 S vv)(k7:Kept 0 0 (W.setCell ⟨T,i,none⟩ (.int .i64 x)) W7)(hO:O<base)(hTO:T≠O)(hg:((W7.alloc o).drewN m).grownBy w9 vv.ownBlock):RB w9 O u1 vv (.slice none 0 0):=by
 have kq:=eL (lo:=T) (hi:=T+1) W ⟨T,i,none⟩ (.int .i64 x) yac
 have ka:Kept 0 0 W7 ((W7.alloc o).drewN m):=(ez 0 0 W7 o).trans (eK 0 0 _ m)
 have cg:=gD hg
 have hR:∀b,vv.ownBlock=some b->base<=b:=λb hb=>(eG f.own hb).1
 exact(((f.ob.keepC (kq.chg1 (S:=λb=>b=T) rfl) (Ne.symm hTO)).keep k7).keep ka).keepC cg (λc=>by have:=hR _ c;omega)
theorem DS.next {W:World}{nv:Vl}(f:DS W w6 T O n2 base u1 S vv)(k7:Kept 0 0 (W.setCell ⟨T,i,none⟩ (.int .i64 x)) W7)(hT:T<base)(hO:O<base)(hTO:T≠O)
  (hown:w9.ownsRow base 35 6 (.slice (some ⟨g9,0,none⟩) (S.1.length+1) cap9) (S.1.length+1) (fp S.1++nv.cells)) (hg:((W7.alloc o).drewN m).grownBy w9 vv.ownBlock):
  DS (w9.setCell ⟨O,1,none⟩ (.slice (some ⟨g9,0,none⟩) (S.1.length+1) cap9)) w6 T O n2 base u1 (S.1++[nv],S.2.set i x) (.slice (some ⟨g9,0,none⟩) (S.1.length+1) cap9):=by
 have kq:=eL (lo:=T) (hi:=T+1) W ⟨T,i,none⟩ (.int .i64 x) yac
 have ka:Kept 0 0 W7 ((W7.alloc o).drewN m):=(ez 0 0 W7 o).trans (eK 0 0 _ m)
 have cg:=gD hg
 have hR:∀b,vv.ownBlock=some b->base<=b:=λb hb=>(eG f.own hb).1
 have ob9:=DS.mid f k7 hO hTO hg
 have ko:=eL (lo:=O) (hi:=O+1) w9 ⟨O,1,none⟩ (.slice (some ⟨g9,0,none⟩) (S.1.length+1) cap9) yac
 have t1:=(((f.tq.set i x).keep k7 yaa).keep ka yaa).keepC cg (λc=>by have:=hR _ c;omega)
 have g9b:=eG hown (k:=g9) rfl
 refine⟨t1.keep ko xaa,by simp[f.tl],ob9.put1 _,?_,?_,?_⟩
 ·rw[yak,List.length_singleton,jf,kz]
  exact eH hown (λc=>by simp[Value.ownBlock] at c;omega)
 ·exact Chg.trans f.ch (Chg.trans (kq.chg1 (.inl rfl)) (Chg.trans k7.chg (Chg.trans ka.chg (Chg.trans (cg.mono λb _ c=>.inr (.inr (hR b c))) (ko.chg1 (.inr (.inl rfl)))))))
 ·have h1:=f.bz
  have h3:=kq.size
  have h4:=k7.size
  have h5:=ka.size
  have h6:=cg.size
  have h7:=ko.size
  omega
structure DT (W wE:World)(O base k:Nat)(u1 u2 ov:Value)(xs:List Int):Prop where
 ob:RB W O u1 u2 ov
 own:W.ownsRow base 3 1 ov k (xs.map (Value.int .i64))
 ch:Chg (λb=>b=O\/base<=b) wE W
 bz:base<=W.heap.size
theorem DT.mid {W:World}(f:DT W wE O base k u1 u2 ov xs)(hO:O<base)(hg:((W.alloc o).drewN m).grownBy w9 ov.ownBlock):RB w9 O u1 u2 ov:=by
 have ka:Kept 0 0 W ((W.alloc o).drewN m):=(ez 0 0 W o).trans (eK 0 0 _ m)
 exact(f.ob.keep ka).keepC (gD hg) (λc=>by have:=(eG f.own c).1;omega)
theorem DT.next {W:World}(f:DT W wE O base k u1 u2 ov xs)(hO:O<base)(hown:w9.ownsRow base 3 1 (.slice (some ⟨g9,0,none⟩) (k+1) cap9) (k+1) (xs.map (Value.int .i64)++[.int .i64 x]))(hg:((W.alloc o).drewN m).grownBy w9 ov.ownBlock):
  DT (w9.setCell ⟨O,2,none⟩ (.slice (some ⟨g9,0,none⟩) (k+1) cap9)) wE O base (k+1) u1 u2 (.slice (some ⟨g9,0,none⟩) (k+1) cap9) (xs++[x]):=by
 have ka:Kept 0 0 W ((W.alloc o).drewN m):=(ez 0 0 W o).trans (eK 0 0 _ m)
 have cg:=gD hg
 have hR:∀b,ov.ownBlock=some b->base<=b:=λb hb=>(eG f.own hb).1
 have ko:=eL (lo:=O) (hi:=O+1) w9 ⟨O,2,none⟩ (.slice (some ⟨g9,0,none⟩) (k+1) cap9) yac
 have g9b:=eG hown (k:=g9) rfl
 refine⟨(DT.mid f hO hg).put2 _,?_,?_,?_⟩
 ·rw[List.map_append]
  exact eH hown (λc=>by simp[Value.ownBlock] at c;omega)
 ·exact Chg.trans f.ch (Chg.trans ka.chg (Chg.trans (cg.mono λb _ c=>.inr (hR b c)) (ko.chg1 (.inl rfl))))
 ·have h1:=f.bz
  have h5:=ka.size
  have h6:=cg.size
  have h7:=ko.size
  omega
theorem Gm (w:World)(b1 b2 b3:Option Addr)(n1 c1 n2 c2 n3 c3:Nat)(ins:List Int)(vs:List Vl)(outs:List Int)(f:GS w b1 n1 b2 n2 b3 n3 ins vs outs)(hok:okG ins vs outs=true):
  Calls prog 29 #[eR b1 n1 c1 b2 n2 c2 b3 n3 c3] w λe w'=>SPo w n1 n3 ins (fY vs outs) e w':=by
 obtain⟨i0,hii,hz0,hz1,hz2⟩:=info_parts oh
 obtain⟨j0,hjj,hy0,hy1,hy2⟩:=info_parts oi
 obtain⟨⟨hl1,hl2,hl3⟩,_,hv,ho,_⟩:=iQ hok
 have hvl:vs.length=n2:=f.v.len
 have hol:outs.length=n3:=f.o.len
 have hil:ins.length=n1:=f.i.len
 have hn1:n1<=20:=xaa
 have hn2:n2<=2000:=xaa
 have hn3:n3<=50:=xaa
 have HV:Hid (∀j,j<n2->okV ins vs j=true):=λj hj=>hv j xaa
 have HOUT:Hid (∀o∈outs,0<=o/\o<n2):=λo h=>by have:=ho o h;omega
 have HL:Hid (vs.length=n2/\outs.length=n3):=⟨hvl,hol⟩
 have HOO:Hid (∀o∈outs,0<=o/\o<vs.length):=ho
 have k0:=ez 0 0 w (eP b1 n1 c1 b2 n2 c2 b3 n3 c3)
 have hB:=fE w (.slice b1 n1 c1) (.slice b2 n2 c2) (.slice b3 n3 c3)
 have hz:(w.alloc (eP b1 n1 c1 b2 n2 c2 b3 n3 c3)).heap.size=w.heap.size+1:=by simp
 have k1:=ez 0 0 (w.alloc (eP b1 n1 c1 b2 n2 c2 b3 n3 c3)) eZ
 have hR:=fZ (w.alloc (eP b1 n1 c1 b2 n2 c2 b3 n3 c3))
 rw[hz] at hR
 have hz1':((w.alloc (eP b1 n1 c1 b2 n2 c2 b3 n3 c3)).alloc eZ).heap.size=w.heap.size+1+1:=by simp
 have hm:=rH n2 ((w.alloc (eP b1 n1 c1 b2 n2 c2 b3 n3 c3)).alloc eZ) xaa
 have hN:=BR.made ((w.alloc (eP b1 n1 c1 b2 n2 c2 b3 n3 c3)).alloc eZ) n2
 have k2:=ez 0 0 ((w.alloc (eP b1 n1 c1 b2 n2 c2 b3 n3 c3)).alloc eZ) (.cells (madeCells #[.bool false] n2) 4)
 rw[hz1'] at hm hN
 have HB:Hid _:=(hB.keep k1).keep k2
 have HR:Hid _:=hR.keep k2
 have HF:Hid _:=f.keep ((k0.trans k1).trans k2)
 have HFV:Hid (VS w 0 w.heap.size b2 n2 vs/\IS w 0 w.heap.size b1 n1 ins/\IS w 0 w.heap.size b3 n3 outs):=⟨f.v,f.i,f.o⟩
 have HK:Hid _:=(k0.trans k1).trans k2
 have hN0:ndS vs outs 0=List.replicate n2 false:=by rw[ndS,hvl]
 rw[<-hN0] at hN
 have HN:Hid _:=hN
 have HZ2:Hid ((((w.alloc (eP b1 n1 c1 b2 n2 c2 b3 n3 c3)).alloc eZ).alloc (.cells (madeCells #[.bool false] n2) 4)).heap.size=w.heap.size+1+1+1):=by show _=_;simp
 clear f hok hl1 hl2 hl3 hv ho hvl hol hil hR hz hz1' k0 k1 k2 hN hN0
 obtain⟨_,q0,q1,q2⟩:=hB
 obtain⟨_,p0,p1,p2⟩:=HB.out
 go_enter func29,ntmps29
 go_wp2_with fail
 clear q0 q1 q2 p0 p1 p2 hm
 generalize ((w.alloc (eP b1 n1 c1 b2 n2 c2 b3 n3 c3)).alloc eZ).alloc (.cells (madeCells #[.bool false] n2) 4)=w1 at HB HR HF HK HN HZ2 ⊢
 go_loopw [5] (λx W=>∃j:Nat,j<=n2/\x=.int .i64 ((n2:Int)-1-j)/\Hid (BR W (w.heap.size+1+1) (ndS vs outs j))/\Hid (Kept (w.heap.size+1+1) (w.heap.size+1+1+1) w1 W)) (λx _=>(intOf x+1).toNat)
 case atStart=>exact⟨0,Nat.zero_le _,by go_num,HN,Kept.refl _ _ _⟩
 case round=>
  obtain⟨j,hj,rfl,hF,hK⟩:=hrel
  clear HN
  by_cases hlt:j<n2
  ·obtain⟨i,hi⟩:∃i:Nat,i=n2-1-j:=⟨_,rfl⟩
   have hi2:(n2:Int)-1-j=i:=xaa
   have hi3:i<n2:=xaa
   rw[hi2]
   have HI0:Hid (i=n2-1-j):=hi
   have HI1:Hid ((n2:Int)-1-j=i):=hi2
   clear hi hi2
   have hln:(ndS vs outs j).length=n2:=by rw[lX];exact HL.out.1
   have HLN:Hid _:=hln
   have cb:=hF.out.cell i xaa
   have fb':=hF.out.free i
   have hops:=jz (HV.out i hi3)
   have hopr:=rG (HV.out i hi3)
   have HG2:Hid (∀W',Kept (w.heap.size+1+1) (w.heap.size+1+1+1) w1 W'->∃g off,b2=some ⟨g,off,none⟩/\g<W'.heap.size/\g<w.heap.size/\At W' g (off+i*6) (vs.getD i Vl.zero)):=λW' kW=>by
    obtain⟨g,off,e,z1,z2,_,z4⟩:=(VS.keep (VS.keep HFV.out.1 HK.out yaa) kW (.inl xaa)).at_idx hi3
    exact⟨g,off,e,z1,z2,z4⟩
   have HOUTS:Hid (∀W',Kept (w.heap.size+1+1) (w.heap.size+1+1+1) w1 W'->Calls prog 51 #[eR b1 n1 c1 b2 n2 c2 b3 n3 c3,.int .i64 (i:Nat)] W' λe w'=>e=.returned (.bool (isO outs i))/\Kept 0 0 W' w'):=λW' kW=>
    zi W' b1 b2 b3 n1 c1 n2 c2 n3 c3 i _ _ outs ((HFV.out.2.2.keep HK.out yaa).keep kW (.inl xaa)) xaa
   have HB5:Hid _:=G0.keepT HB.out hK.out xaa
   have HST:Hid (ndS vs outs (j+1)=if (ndG outs (ndS vs outs j) i).getD i false=true then fJ (ndG outs (ndS vs outs j) i) (eN (vs.getD i Vl.zero)) else ndG outs (ndS vs outs j) i):=by
    show _=_
    have:=AS (vs:=vs) (outs:=outs) (k:=j) rfl
    rw[HL.out.1,<-HI0.out] at this
    exact this
   have HGI:Hid ((ndG outs (ndS vs outs j) i).getD i false=((ndS vs outs j).getD i false||isO outs i)/\ndG outs (ndS vs outs j) i=(ndS vs outs j).set i ((ndS vs outs j).getD i false||isO outs i)):=⟨by unfold ndG;rw[rD _ _ _ _ xaa,if_pos rfl],rfl⟩
   generalize hF0:ndS vs outs j=F at hF cb HLN HST HGI hln
   clear hF0 hln
   obtain⟨_,p0,p1,p2⟩:=HB5.out
   go_upto_region 6 with fail
   go_cut [32] (λc wx=>Hid (BR wx (w.heap.size+1+1) (ndG outs F i))/\Hid (Kept (w.heap.size+1+1) (w.heap.size+1+1+1) w1 wx))
   case first=>
    cases hb:F.getD i false
    ·rw[hb] at cb HGI
     go_wp2_with fail
     refine yai (HOUTS.out wr hK.out) ?_
     rintro e w2 ⟨rfl,k2⟩
     have hF2:=BR.keep hF.out k2 yaa
     have cb2:=hF2.cell i (by rw[HLN.out];exact hi3)
     have fb2:=hF2.free i
     have R1:Hid (BR (w2.setCell ⟨w.heap.size+1+1,i,none⟩ (.bool (isO outs i))) (w.heap.size+1+1) (ndG outs F i)):=by
      have:=BR.set hF2 i (isO outs i)
      show BR _ _ _
      rw[HGI.out.2]
      exact this
     have R2:Hid _:=Kept.trans (Kept.trans hK.out (k2.mono (lo':=w.heap.size+1+1) (hi':=w.heap.size+1+1+1) λb _ c=>by omega)) (eL (lo:=w.heap.size+1+1) (hi:=w.heap.size+1+1+1) w2 ⟨w.heap.size+1+1,i,none⟩ (.bool (isO outs i)) yac)
     generalize F.getD i false=z at cb2
     clear k2 hF2 hF hK
     go_wp2_with fail
     go_meet
     exact⟨R1,R2⟩
    ·rw[hb] at cb HGI
     have R1:Hid (BR (wr.setCell ⟨w.heap.size+1+1,i,none⟩ (.bool true)) (w.heap.size+1+1) (ndG outs F i)):=by
      have:=BR.set hF.out i true
      show BR _ _ _
      rw[HGI.out.2]
      exact this
     have R2:Hid _:=Kept.trans hK.out (eL (lo:=w.heap.size+1+1) (hi:=w.heap.size+1+1+1) wr ⟨w.heap.size+1+1,i,none⟩ (.bool true) yac)
     clear hF hK
     go_wp2_with fail
     go_meet
     exact⟨R1,R2⟩
   case rest=>
    obtain⟨hF2,hK2⟩:=hcut
    clear hF hK HGI HOUTS cb fb' p0 p1 p2 HB5
    have HLN2:Hid ((ndG outs F i).length=n2):=by show _=_;unfold ndG;rw[List.length_set];exact HLN.out
    generalize hF3:ndG outs F i=F2 at hF2 HST HLN2
    clear hF3 HLN
    generalize hvv:vs.getD i Vl.zero=v at HG2 HST hops hopr
    clear hvv
    have HOP:Hid _:=hops
    have HL1:Hid _:=ze v.op hopr.1 hopr.2
    have hc3:=gX v.op
    clear hops hopr
    go_wp2_with fail
    go_loopw [6] (λx W=>∃q:Nat,q<=cnt v.op/\x=.int .i64 q/\Hid (q=0\/F2.getD i false=true)/\Hid (BR W (w.heap.size+1+1) (fJ F2 ((eN v).take q)))/\Hid (Kept (w.heap.size+1+1) (w.heap.size+1+1+1) w1 W)) (λx _=>cnt v.op-(intOf x).toNat)
    case atStart=>exact⟨0,Nat.zero_le _,rfl,.inl rfl,hF2,hK2⟩
    case round=>
     obtain⟨q,hq,rfl,hA,hF,hK⟩:=hrel
     clear hF2 hK2
     obtain⟨g,off,rfl,hg,hgw,hat⟩:=HG2.out wr hK.out
     obtain⟨y0,y1,y2,y3,y4,y5⟩:=hat
     obtain⟨_,p0,p1,p2⟩:=G0.keepT HB.out hK.out xaa
     have hlq:(fJ F2 ((eN v).take q)).length=n2:=by rw[iw];exact HLN2.out
     by_cases hqc:q<cnt v.op
     ·cases hb:F2.getD i false
      ·have hq0:q=0:=by
        rcases hA.out with c|c
        ·exact c
        ·rw[hb] at c;cases c
       subst hq0
       have cb:=hF.out.cell i xaa
       rw[List.take_zero] at cb
       have e0:fJ F2 []=F2:=rfl
       rw[e0,hb] at cb
       have R1:Hid (BR wr (w.heap.size+1+1) (ndS vs outs (j+1))):=by
        show BR _ _ _
        rw[HST.out,hb,if_neg xac]
        exact hF.out
       have R2:Hid _:=hK.out
       clear hF hK hA hlq hb e0
       exact xfl
      ·have cb:=hF.out.cell i xaa
       rw[ue hb] at cb
       clear hb
       have hmem:(eN v).getD q 0∈eN v:=iR (by rw[iP];exact hqc)
       have hob:=HOP.out _ hmem
       rw[qt v hqc] at hob
       obtain⟨m,em,hm⟩:∃m:Nat,fld v q=m/\m<n2:=⟨(fld v q).toNat,by omega,by omega⟩
       have HFD:Hid (∀W,Calls prog 37 #[v.agg,.int .i64 (q:Int)] W λe w'=>e=.returned (.int .i64 (m:Nat))/\Kept 0 0 W w'):=λW=>by
        have:=kR W v q xaa
        rw[em] at this
        exact this
       go_wp2_with (first|(go_at_call 36;refine yai (HL1.out _) ?_;rintro e w9 ⟨rfl,rfl⟩)|fail)
       refine yai (HFD.out _) ?_
       rintro e w9 ⟨rfl,k9⟩
       have hF9:=BR.keep hF.out k9 yaa
       have c2':=hF9.cell m xaa
       have fz:=hF9.free m
       have R1:Hid (BR (w9.setCell ⟨w.heap.size+1+1,m,none⟩ (.bool true)) (w.heap.size+1+1) (fJ F2 ((eN v).take (q+1)))):=by
        have:=BR.set hF9 m true
        show BR _ _ _
        rw[ki _ _ (by rw[iP];exact hqc),qt v hqc,em,Int.toNat_natCast]
        exact this
       have R2:Hid _:=Kept.trans (Kept.trans hK.out (k9.mono (lo':=w.heap.size+1+1) (hi':=w.heap.size+1+1+1) λb _ c=>by omega)) (eL (lo:=w.heap.size+1+1) (hi:=w.heap.size+1+1+1) w9 ⟨w.heap.size+1+1,m,none⟩ (.bool true) yac)
       generalize (fJ F2 ((eN v).take q)).getD m false=z at c2'
       clear hF hK hA hlq hmem hob em k9 hF9 cb y0 y1 y2 y3 y4 y5 p0 p1 p2
       go_wp2
       go_roundw
       case rel=>exact⟨q+1,by omega,by go_num,.inr trivial,R1,R2⟩
       case measure=>simp[intOf];omega
     ·obtain rfl:q=cnt v.op:=xaa
      have R1:Hid (BR wr (w.heap.size+1+1) (ndS vs outs (j+1))):=by
       have h1:=hF.out
       rw[yao (by rw[iP];omega)] at h1
       show BR _ _ _
       rw[HST.out]
       split
       ·exact h1
       ·rename_i hne
        rcases hA.out with c|c
        ·have:eN v=[]:=List.length_eq_zero_iff.1 (by rw[iP];exact c)
         rw[this] at h1
         exact h1
        ·exact absurd c hne
      have R2:Hid _:=hK.out
      clear hF hK hA hlq
      exact xfl
  ·obtain rfl:j=n2:=xaa
   have hx:(j:Int)-1-j=-1:=xaa
   rw[hx]
   clear hx
   have HNE:Hid (BR wr (w.heap.size+1+1) (ndI vs outs j)):=by
    show BR _ _ _
    have e:=Hq vs outs HOO.out
    rw[HL.out.1] at e
    rw[<-e]
    exact hF.out
   have HK3:Hid (Kept 0 0 w wr):=HK.out.new hK.out xaa
   have HB3:Hid _:=G0.keepT HB.out hK.out xaa
   have HR3:Hid _:=RB.keepC HR.out (hK.out.chg1 (S:=λb=>b=w.heap.size+1+1) rfl) xaa
   have HZ3:Hid (w.heap.size+1+1+1<=wr.heap.size):=by have h1:=hK.out.size;have h2:=HZ2.out;show _<=_;omega
   clear hF hK HB HR HF HK
   have hm:=o6 j wr xaa
   have hT:=IR.made wr j
   have k3:=ez 0 0 wr (.cells (madeCells #[.int .i64 0] j) 3)
   have HCI:Hid _:=lH (wr.alloc (.cells (madeCells #[.int .i64 0] j) 3)) _ _ b1 n1 c1 ins xaa (IS.keep HFV.out.2.1 (HK3.out.trans k3) yaa)
   have HT4:Hid _:=hT
   have HK4:Hid _:=HK3.out.trans k3
   have HB4:Hid _:=HB3.out.keep k3
   have HR4:Hid _:=HR3.out.keep k3
   have HN4:Hid _:=BR.keep HNE.out k3 yaa
   obtain⟨_,p0,p1,p2⟩:=HB4.out
   clear k3 hT HK3 HB3 HR3 HNE
   go_wp2_with fail
   clear p0 p1 p2 hm
   have HZ4:Hid ((wr.alloc (.cells (madeCells #[.int .i64 0] j) 3)).heap.size=wr.heap.size+1):=by show _=_;simp
   generalize wr.alloc (.cells (madeCells #[.int .i64 0] j) 3)=w4 at HCI HT4 HK4 HB4 HR4 HN4 HZ4 ⊢
   refine yai HCI.out ?_
   rintro e w5 ⟨a1,d1,rfl,o1,k5⟩
   have kb:=ez 0 0 w5 (eP a1 n1 d1 none 0 0 none 0 0)
   have HO6:Hid _:=vq w5 (.slice a1 n1 d1) (.slice none 0 0) (.slice none 0 0)
   have HT6:Hid _:=IR.keep HT4.out (k5.trans kb) yaa
   have HK6:Hid _:=HK4.out.trans (k5.trans kb)
   have HB6:Hid _:=HB4.out.keep (k5.trans kb)
   have HR6:Hid _:=HR4.out.keep (k5.trans kb)
   have HN6:Hid _:=BR.keep HN4.out (k5.trans kb) yaa
   have HI6:Hid _:=eO o1 kb
   have HIB:Hid (∀b,(Value.slice a1 n1 d1).ownBlock=some b->w4.heap.size<=b/\b<w5.heap.size):=λb hb=>eG o1 hb
   have HZ6:Hid (wr.heap.size+1<=w5.heap.size/\(w5.alloc (eP a1 n1 d1 none 0 0 none 0 0)).heap.size=w5.heap.size+1/\w4.heap.size=wr.heap.size+1):=⟨by have:=k5.size;have:=HZ4.out;omega,by simp,HZ4.out⟩
   clear k5 kb o1 HCI HT4 HK4 HB4 HR4 HN4 HZ4
   go_wp2_with fail
   generalize w5.alloc (eP a1 n1 d1 none 0 0 none 0 0)=w6 at HO6 HT6 HK6 HB6 HR6 HN6 HI6 HZ6 ⊢
   have HDS:Hid (DS w6 w6 wr.heap.size w5.heap.size j w6.heap.size (.slice a1 n1 d1) (fL (ndI vs outs j) vs 0) (.slice none 0 0)):=
    ⟨by rw[fL,HL.out.1];exact HT6.out,by rw[fL,HL.out.1];simp,HO6.out,yav _ _ _ _,Chg.refl _ _,yad⟩
   clear HO6 HT6
   have HZ7:Hid (w.heap.size+1+1+1<=wr.heap.size/\wr.heap.size+1<=w5.heap.size/\w6.heap.size=w5.heap.size+1/\w4.heap.size=wr.heap.size+1):=⟨HZ3.out,HZ6.out⟩
   clear HZ3 HZ6
   generalize wr.heap.size=T at HDS HZ7 ⊢
   go_loopw [9] (λx W=>∃(i:Nat) (vv:Value),i<=j/\x=.int .i64 i/\Hid (DS W w6 T w5.heap.size j w6.heap.size (.slice a1 n1 d1) (fL (ndI vs outs j) vs i) vv)) (λx _=>j-(intOf x).toNat)
   case atStart=>exact⟨0,.slice none 0 0,Nat.zero_le _,rfl,HDS⟩
   case round=>
    obtain⟨i,vv,hi,rfl,hD⟩:=hrel
    clear HDS
    by_cases hlt:i<j
    ·have hz8:w6.heap.size<=wr.heap.size:=hD.out.ch.size
     have hz9:=HZ7.out
     obtain⟨g,off,rfl,hg,hgw,_,hat⟩:=(VS.keepC (VS.keep HFV.out.1 HK6.out yaa) hD.out.ch (λg _ h2=>by omega)).at_idx hlt
     have hops:=jz (HV.out i hlt)
     have hopr:=rG (HV.out i hlt)
     have hbr:=BR.keepC HN6.out hD.out.ch xaa
     have hnl:(ndI vs outs j).length=j:=by rw[ja];exact HL.out.1
     have cb:=hbr.cell i xaa
     have HB7:Hid _:=G0.keepC HB6.out hD.out.ch xaa
     have hdl:=lM (ndI vs outs j) vs i
     obtain⟨_,x0,x1,x2,xf0,xf1,xf2⟩:=hD.out.ob
     obtain⟨_,p0,p1,p2⟩:=HB7.out
     cases hb:(ndI vs outs j).getD i false
     ·have HE:Hid (DS wr w6 T w5.heap.size j w6.heap.size (.slice a1 n1 d1) (fL (ndI vs outs j) vs (i+1)) vv):=by show DS _ _ _ _ _ _ _ _ _;rw[pP hb];exact hD.out
      rw[hb] at cb
      clear hb hnl hdl hops hbr hD
      go_wp2
      go_roundw
      case rel=>exact⟨i+1,vv,by omega,by go_num,HE⟩
      case measure=>simp[intOf];omega
     ·rw[hb] at cb
      have HE:Hid _:=ww (vs:=vs) hb
      generalize hv:vs.getD i Vl.zero=v at hat HE hops hopr
      generalize hS:fL (ndI vs outs j) vs i=S at hD HE hdl
      have HTL:Hid (S.2.length=j):=hD.out.tl
      have cT:=IR.cell hD.out.tq i (by rw[HTL.out];exact hlt)
      have fT:=IR.free hD.out.tq i
      generalize S.2.getD i 0=zz at cT
      obtain⟨av,cv',rfl⟩:=iH hD.out.own
      have HRN:Hid (∀W,Kept 0 0 (wr.setCell ⟨T,i,none⟩ (.int .i64 (S.1.length:Nat))) W->Calls prog 53 #[v.agg,.slice (some ⟨T,0,none⟩) j j] W λe w'=>e=.returned (rnm (S.2.set i (S.1.length:Nat)) v).agg/\Kept 0 0 W w'):=λW kW=>
       Fu W v _ _ (some ⟨T,0,none⟩) j j _ (IR.isAt (IR.keep (IR.set hD.out.tq i (S.1.length:Nat)) kW yaa) (by rw[List.length_set];exact hD.out.tl)) hopr (λo h=>by have:=hops o h;omega)
      generalize rnm (S.2.set i (S.1.length:Nat)) v=nv at HE HRN
      have hsl:S.1.length<=2000:=xaa
      have hkq:=eL (lo:=T) (hi:=T+1) wr ⟨T,i,none⟩ (.int .i64 (S.1.length:Nat)) yac
      have HAT:Hid _:=At.keep hat hg hkq xaa
      have HBX:Hid _:=RB.keepC hD.out.ob (hkq.chg1 (S:=λb=>b=T) rfl) xaa
      have HPX:Hid _:=G0.keepT HB7.out hkq xaa
      have HOW:Hid _:=eH (P:=T) (o:=i) (u:=.int .i64 (S.1.length:Nat)) hD.out.own (λc=>by have:=(eG hD.out.own c).1;omega)
      have HDD:Hid _:=hD.out
      have hTP:T≠w.heap.size:=xaa
      have hTO:T≠w5.heap.size:=xaa
      have hTg:T≠g:=xaa
      have hgz:g<wr.heap.size:=hg
      obtain⟨y0,y1,y2,y3,y4,y5⟩:=hat
      have HMID:Hid (∀W7 w9 o m,Kept 0 0 (wr.setCell ⟨T,i,none⟩ (.int .i64 (S.1.length:Nat))) W7->((W7.alloc o).drewN m).grownBy w9 (Value.slice av S.1.length cv').ownBlock->_):=λW7 w9 o m k7 hg9=>DS.mid (o:=o) (m:=m) HDD.out k7 xaa hTO hg9
      have HNXT:Hid (∀W7 w9 o m g9 cap9,Kept 0 0 (wr.setCell ⟨T,i,none⟩ (.int .i64 (S.1.length:Nat))) W7->w9.ownsRow w6.heap.size 35 6 (.slice (some ⟨g9,0,none⟩) (S.1.length+1) cap9) (S.1.length+1) (fp S.1++nv.cells)->((W7.alloc o).drewN m).grownBy w9 (Value.slice av S.1.length cv').ownBlock->_):=λW7 w9 o m g9 cap9 k7 ho9 hg9=>DS.next (o:=o) (m:=m) HDD.out k7 xaa xaa hTO ho9 hg9
      have HBZ:Hid (w6.heap.size<=(wr.setCell ⟨T,i,none⟩ (.int .i64 (S.1.length:Nat))).heap.size):=by show _<=_;simp;exact HDD.out.bz
      go_wp2_with fail
      clear y0 y1 y2 y3 y4 y5 cT fT cb p0 p1 p2 x0 x1 x2 xf0 xf1 xf2 hkq
      generalize wr.setCell ⟨T,i,none⟩ (.int .i64 (S.1.length:Nat))=W1 at HRN HAT HBX HPX HOW HMID HNXT HBZ ⊢
      have hgz1:g<W1.heap.size:=by have:=HBZ.out;omega
      clear hD HDD hS hv hb hnl hdl hops hbr hopr HB7 hgz hg
      obtain⟨y0,y1,y2,y3,y4,y5⟩:=HAT.out
      obtain⟨_,x0,x1,x2,xf0,xf1,xf2⟩:=HBX.out
      obtain⟨_,p0,p1,p2⟩:=HPX.out
      go_region_law (first
       |(go_simp;go_at_call 53;refine yai (HRN.out _ (eC W1)) ?_;rintro e w7 ⟨rfl,k7⟩;have kd:=(eC W1).trans k7;obtain⟨_,r0,r1,r2,rf0,rf1,rf2⟩:=RB.keep HBX.out kd)
       |(refine step_append_lies _ rfl (.tmp 82) (.tmp 90) 24 rfl w6.heap.size 35 i0 (ib 0 0 0 0 0 0) 6 48 underlying24 hii hz0 hz1 hz2 rfl xab _ _ (fp S.1) (by simp[Act.eval]) ((eO HOW.out kd).alloc _) ⟨w7.heap.size,0,none⟩ 1 1 nv.cells (by simp[Act.eval]) rfl (qn w7 nv 0) (uK nv) xab (by unfold maxLen;omega) xaa (by have h1:=kd.size;have h2:=HBZ.out;simp;omega) _ rfl ?_;intro g9 cap9 w9 hown9 hg9 hat9 hlt9;obtain⟨_,s0,s1,s2,sf0,sf1,sf2⟩:=HMID.out w7 w9 _ 0 kd hg9))
      all_goals
       have R:Hid _:=HNXT.out w7 w9 _ 0 g9 cap9 kd hown9 hg9
       clear hown9 hg9 hat9 hlt9 kd k7
       go_wp2
       go_roundw
       case rel=>exact⟨i+1,_,by omega,by go_num,by rw[HE.out];exact R⟩
       case measure=>simp[intOf];omega
    ·obtain rfl:i=j:=xaa
     have hz8:w6.heap.size<=wr.heap.size:=hD.out.ch.size
     have hz9:=HZ7.out
     have hdl:=lM (ndI vs outs i) vs i
     have HM:Hid (fY vs outs=((fL (ndI vs outs i) vs i).1,jZ (fL (ndI vs outs i) vs i).2 outs)):=by show _=_;unfold fY;rw[HL.out.1]
     have HKK:Hid _:=oO (show Kb vs from HFV.out.1.lt) (ndI vs outs i) i
     obtain⟨av,cv',rfl⟩:=iH hD.out.own
     generalize hS:fL (ndI vs outs i) vs i=S at hD HM HKK hdl
     clear hS
     have HB7:Hid _:=G0.keepC HB6.out hD.out.ch xaa
     have HR7:Hid _:=RB.keepC HR6.out hD.out.ch xaa
     have HI7:Hid _:=fj HI6.out hD.out.ch (λb hb=>by have:=HIB.out b hb;omega)
     have HK7:Hid (Kept 0 0 w wr):=Chg.kept HK6.out hD.out.ch (λb hb=>by omega)
     have HT7:Hid (IR wr T S.2/\S.2.length=i):=⟨hD.out.tq,hD.out.tl⟩
     have HO7:Hid _:=hD.out.own
     have HDT:Hid (DT wr wr w5.heap.size wr.heap.size 0 (.slice a1 n1 d1) (.slice av S.1.length cv') (.slice none 0 0) ((jZ S.2 outs).take 0)):=⟨hD.out.ob,yav _ _ _ _,Chg.refl _ _,yad⟩
     have HZ8:Hid (w5.heap.size<wr.heap.size/\T<wr.heap.size/\w.heap.size+1+1+1<=T/\T<w5.heap.size/\w6.heap.size=w5.heap.size+1/\w4.heap.size=T+1):=⟨by omega,by omega,by omega,by omega,by omega,by omega⟩
     have HWE:Hid (wr.heap.size<=wr.heap.size):=yad
     clear hD HB6 HR6 HI6 HK6 HN6 hz8 hz9
     go_wp2_with fail
     generalize hEE:wr.heap.size=E at HDT HZ8 HWE
     have HEE:Hid (wr.heap.size=E):=hEE
     clear hEE HWE
     obtain⟨wE,hwE⟩:∃wE,wE=wr:=⟨_,rfl⟩
     rw[<-hwE] at HDT HB7 HR7 HI7 HK7 HT7 HO7 HEE
     go_loopw [10] (λx W=>∃(k:Nat) (ov:Value),k<=n3/\x=.int .i64 k/\Hid (DT W wE w5.heap.size E k (.slice a1 n1 d1) (.slice av S.1.length cv') ov ((jZ S.2 outs).take k))) (λx _=>n3-(intOf x).toNat)
     case atStart=>exact⟨0,.slice none 0 0,Nat.zero_le _,rfl,by rw[hwE] at HDT ⊢;exact HDT⟩
     case round=>
      obtain⟨k,ov,hk,rfl,hD⟩:=hrel
      clear HDT hwE
      have hz8:E<=wr.heap.size:=hD.out.bz
      have hz9:=HZ8.out
      obtain⟨_,p0,p1,p2⟩:=G0.keepC HB7.out hD.out.ch xaa
      obtain⟨_,x0,x1,x2,xf0,xf1,xf2⟩:=hD.out.ob
      by_cases hkn:k<n3
      ·have hom:=iR (xs:=outs) (q:=k) (by rw[HL.out.2];exact hkn)
       have hob:=HOUT.out _ hom
       obtain⟨m,em,hm⟩:∃m:Nat,outs.getD k 0=m/\m<i:=⟨(outs.getD k 0).toNat,by omega,by omega⟩
       obtain⟨go,oo,kk,rfl,ek,_,hgo,cO⟩:=(IS.keepC (IS.keep HFV.out.2.2 HK7.out yaa) hD.out.ch (λg _ h2=>by omega)).at_idx (o:=k) xaa xaa
       obtain rfl:k=kk:=xaa
       rw[Int.toNat_natCast,em] at cO
       have cT:=IR.cell (IR.keepC HT7.out.1 hD.out.ch xaa) m (by rw[HT7.out.2];exact hm)
       have HX:Hid ((jZ S.2 outs).take (k+1)=(jZ S.2 outs).take k++[S.2.getD m 0]):=by
        show _=_
        rw[yat (by rw[jW,HL.out.2];exact hkn)]
        congr 2
        unfold jZ
        rw[List.getElem_map,<-Int.toNat_natCast (m),<-em,yah (l:=outs),yal (by rw[HL.out.2];exact hkn)]
        rfl
       generalize S.2.getD m 0=y at cT HX
       obtain⟨ax,cx,rfl⟩:=iH hD.out.own
       have hbz:=hD.out.bz
       have HDD:Hid _:=hD.out
       clear hD hom hob em
       go_wp2_with fail
       go_region_law ((refine step_append_lies _ rfl (.tmp 101) (.tmp 110) 23 rfl E 3 j0 (.int .i64 0) 1 8 underlying23 hjj hy0 hy1 hy2 rfl xab _ _ (((jZ S.2 outs).take k).map (Value.int .i64)) (by simp[Act.eval]) (jK HDD.out.own 1 _) ⟨wr.heap.size,0,none⟩ 1 1 [.int .i64 y] (by simp[Act.eval]) rfl (cell_one_new _ _ _) (by intro u hu;simp at hu;subst hu;rfl) xab (by unfold maxLen;omega) xaa yaf _ rfl ?_;intro g9 cap9 w9 hown9 hg9 hat9 hlt9;obtain⟨_,s0,s1,s2,sf0,sf1,sf2⟩:=DT.mid HDD.out HZ8.out.1 hg9))
       all_goals
        have R:Hid _:=DT.next HDD.out HZ8.out.1 hown9 hg9
        rw[<-HX.out] at R
        clear hown9 hg9 hat9 hlt9
        go_wp2
        go_roundw
        case rel=>exact⟨k+1,_,by omega,by go_num,R⟩
        case measure=>simp[intOf];omega
      ·obtain rfl:k=n3:=xaa
       obtain⟨ax,cx,rfl⟩:=iH hD.out.own
       obtain⟨_,s0,s1,s2,v0,v1,v2⟩:=RB.keepC HR7.out hD.out.ch xaa
       have HIF:Hid _:=fj HI7.out hD.out.ch (λb hb=>by have:=HIB.out b hb;omega)
       have HVF:Hid _:=fj HO7.out hD.out.ch (λb hb=>by have:=eG HO7.out hb;have:=HEE.out;omega)
       have HOF:Hid _:=hD.out.own
       have HKF:Hid (Kept 0 0 w wr):=Chg.kept HK7.out hD.out.ch (λb hb=>by omega)
       clear hD
       go_wp2_with fail
       obtain⟨y0,y1,y2⟩:=eY wr (w.heap.size+1) _ _ _ s0 s1 s2 (.slice a1 n1 d1) (.slice av S.1.length cv') (.slice ax k cx)
       have kp:=fc wr (w.heap.size+1) (.slice a1 n1 d1) (.slice av S.1.length cv') (.slice ax k cx)
       refine yay (v:=eR a1 n1 d1 av S.1.length cv' ax k cx) (by simp[results,results29,go_sem,y0,y1,y2]) rfl ⟨a1,d1,av,S.1.length,cv',ax,cx,S.1,rfl,⟨?_,?_,?_⟩,?_,HKF.out.new kp xaa⟩
       ·exact zd (fK HIF.out kp (λb hb=>by have:=HIB.out b hb;omega)) (HFV.out.2.1.len)
       ·exact Fs (fK HVF.out kp (λb hb=>by have:=eG HVF.out hb;omega)) rfl HKK.out
       ·rw[HM.out]
        have h1:=fK HOF.out kp (λb hb=>by have:=eG HOF.out hb;omega)
        rw[yao (by rw[jW,HL.out.2];omega)] at h1
        exact zd h1 (by rw[jW];exact HL.out.2)
       ·rw[HM.out];exact Lk.refl _
theorem Iv (w:World)(p:Int):IS (w.alloc (.cells #[.int .i64 p] 3)) 0 (w.heap.size+1) (some ⟨w.heap.size,0,none⟩) 1 [p]:=
 ⟨rfl,.inr ⟨w.heap.size,0,rfl,Nat.zero_le _,yae,by simp,λk hk=>by
  obtain rfl:k=0:=xaa
  simp⟩⟩
theorem rpD (w:World)(b1 b2 b3:Option Addr)(n1 c1 n2 c2 n3 c3:Nat)(ins:List Int)(vs:List Vl)(outs:List Int)(h1:LsI w b1 n1 c1 ins)(h2:LsV w b2 n2 c2 vs)(h3:LsI w b3 n3 c3 outs)(hlt:Kb vs)(h:okG ins vs outs=true):
  Calls prog 6 #[eR b1 n1 c1 b2 n2 c2 b3 n3 c3,.int .i64 0] w (PRg w n1 n3 ins (fY vs outs)):=by
 have hz:((w.alloc (eP b1 n1 c1 b2 n2 c2 b3 n3 c3)).alloc eZ).heap.size=w.heap.size+1+1:=by simp
 have hK:=((ez 0 0 w (eP b1 n1 c1 b2 n2 c2 b3 n3 c3)).trans (ez 0 0 _ eZ)).trans (ez 0 0 _ (.cells #[.int .i64 0] 3))
 have HX:Hid _:=I8 _ b1 b2 b3 _ n1 c1 n2 c2 n3 c3 _ _ 1 ins vs outs (h1.keep hK) (h2.keep hK) (h3.keep hK) hlt h (Iv ((w.alloc (eP b1 n1 c1 b2 n2 c2 b3 n3 c3)).alloc eZ) 0)
 rw[hz] at HX
 have HZ:Hid (w.heap.size+1+1<(((w.alloc (eP b1 n1 c1 b2 n2 c2 b3 n3 c3)).alloc eZ).alloc (.cells #[.int .i64 0] 3)).heap.size):=by show _<_;simp
 have HK:Hid _:=hK
 have hN:=fZ (w.alloc (eP b1 n1 c1 b2 n2 c2 b3 n3 c3))
 rw[show(w.alloc (eP b1 n1 c1 b2 n2 c2 b3 n3 c3)).heap.size=w.heap.size+1 by simp] at hN
 have HN:Hid _:=hN.keep (ez 0 0 _ (.cells #[.int .i64 0] 3))
 clear hK hN hz h1 h2 h3 h hlt
 go_enter func6,ntmps6
 go_wp2_with fail
 refine yai HX.out ?_
 clear HX
 generalize ((w.alloc (eP b1 n1 c1 b2 n2 c2 b3 n3 c3)).alloc eZ).alloc (.cells #[.int .i64 0] 3)=w1 at HK HN HZ ⊢
 rintro e w2 ⟨B1,d1,G2,m2,d2,B3,d3,rfl,z1,z2,z3,⟨l2,l1,l3⟩,z4,k2⟩
 obtain⟨_,q0,q1,q2,f0,f1,f2⟩:=RB.keep HN.out k2
 have hz:=HZ.out
 obtain⟨y0,y1,y2⟩:=eY w2 (w.heap.size+1) _ _ _ q0 q1 q2 (.slice B1 n1 d1) (.slice (some ⟨G2,0,none⟩) m2 d2) (.slice B3 n3 d3)
 have kp:=fc w2 (w.heap.size+1) (.slice B1 n1 d1) (.slice (some ⟨G2,0,none⟩) m2 d2) (.slice B3 n3 d3)
 have key:∀{b:Option Addr} {n c:Nat} {xs:List Int},LsI w2 b n c xs->(∀g,b=some ⟨g,0,none⟩->w1.heap.size<=g)->LsI (fe w2 (w.heap.size+1) (.slice B1 n1 d1) (.slice (some ⟨G2,0,none⟩) m2 d2) (.slice B3 n3 d3)) b n c xs:=λh l=>⟨h.1,h.2.imp id λ⟨g,e,f⟩=>⟨g,e,f.keep kp (by have:=l g e;omega)⟩⟩
 have hk:=HK.out.size
 have R:Hid (PRg w n1 n3 ins (fY vs outs) (.returned (.tuple #[eR B1 n1 d1 (some ⟨G2,0,none⟩) m2 d2 B3 n3 d3,.int .i64 0])) _):=
  ⟨B1,d1,G2,m2,d2,B3,d3,rfl,key z1 l1,⟨z2.1,z2.2.imp id λ⟨g,e,f⟩=>⟨g,e,f.keep kp (by cases e;omega)⟩⟩,key z3 l3,⟨by omega,λg e=>by have:=l1 g e;omega,λg e=>by have:=l3 g e;omega⟩,z4,(HK.out.trans k2).new kp xaa⟩
 clear k2 kp z1 z2 z3 z4 hz l1 l2 l3 key hk
 go_wp2_with fail
 exact yay (v:=.tuple #[eR B1 n1 d1 (some ⟨G2,0,none⟩) m2 d2 B3 n3 d3,.int .i64 0]) (by simp[results,results6,go_sem,y0,y1,y2]) rfl R.out
def SrC (ok:Bool)(c:Int)(m M:Nat):Prop:=(ok=true->c=0/\m=M)/\(ok=false->c=1)
def SDo (w:World)(m:Nat)(e:Ending)(w':World):Prop:=∃a1 n1 d1 a2 d2 a3 n3 d3,e=.returned (eR a1 n1 d1 a2 m d2 a3 n3 d3)/\Kept 0 0 w w'
theorem Ix (w:World)(b1 b2 b3:Option Addr)(n1 c1 n2 c2 n3 c3:Nat)(m:Nat)(H:∀W,Kept 0 0 w W->Calls prog 29 #[eR b1 n1 c1 b2 n2 c2 b3 n3 c3] W (SDo W m)):
  Calls prog 12 #[eR b1 n1 c1 b2 n2 c2 b3 n3 c3,.int .i64 0] w (SDo w m):=by
 have hK:=(ez 0 0 w (eP b1 n1 c1 b2 n2 c2 b3 n3 c3)).trans (ez 0 0 _ eZ)
 have HK:Hid _:=hK
 have hN:=fZ (w.alloc (eP b1 n1 c1 b2 n2 c2 b3 n3 c3))
 rw[show(w.alloc (eP b1 n1 c1 b2 n2 c2 b3 n3 c3)).heap.size=w.heap.size+1 by simp] at hN
 have HN:Hid _:=hN
 have HX:Hid _:=H _ hK
 clear hK hN H
 go_enter func12,ntmps12
 go_wp2_with fail
 refine yai HX.out ?_
 clear HX
 rintro e w2 ⟨a1,m1,d1,a2,d2,a3,m3,d3,rfl,k2⟩
 obtain⟨_,q0,q1,q2,f0,f1,f2⟩:=RB.keep HN.out k2
 obtain⟨y0,y1,y2⟩:=eY w2 (w.heap.size+1) _ _ _ q0 q1 q2 (.slice a1 m1 d1) (.slice a2 m d2) (.slice a3 m3 d3)
 have R:Hid _:=(HK.out.trans k2).new (fc w2 (w.heap.size+1) (.slice a1 m1 d1) (.slice a2 m d2) (.slice a3 m3 d3)) xaa
 clear k2
 go_wp2_with fail
 exact yay (v:=eR a1 m1 d1 a2 m d2 a3 m3 d3) (by simp[results,results12,go_sem,y0,y1,y2]) rfl ⟨_,_,_,_,_,_,_,_,rfl,R.out⟩
theorem srD (w:World)(b1 b2 b3:Option Addr)(n1 c1 n2 c2 n3 c3:Nat)(ins:List Int)(vs:List Vl)(outs:List Int)(f:GS w b1 n1 b2 n2 b3 n3 ins vs outs):
  Calls prog 5 #[eR b1 n1 c1 b2 n2 c2 b3 n3 c3,.int .i64 0] w λe w'=>∃a1 m1 d1 a2 m2 d2 a3 m3 d3 c,e=.returned (.tuple #[eR a1 m1 d1 a2 m2 d2 a3 m3 d3,.int .i64 c])/\SrC (okG ins vs outs) c m2 (fY vs outs).1.length/\Kept 0 0 w w':=by
 have hK:=(ez 0 0 w (eP b1 n1 c1 b2 n2 c2 b3 n3 c3)).trans (ez 0 0 _ eZ)
 have HX:Hid _:=qr _ b1 b2 b3 n1 c1 n2 c2 n3 c3 ins vs outs (f.keep hK)
 have HK:Hid _:=hK
 have hN:=fZ (w.alloc (eP b1 n1 c1 b2 n2 c2 b3 n3 c3))
 rw[show(w.alloc (eP b1 n1 c1 b2 n2 c2 b3 n3 c3)).heap.size=w.heap.size+1 by simp] at hN
 have HN:Hid _:=hN
 have HB:Hid _:=(fE w (.slice b1 n1 c1) (.slice b2 n2 c2) (.slice b3 n3 c3)).keep (ez 0 0 _ eZ)
 clear hK hN
 cases h:okG ins vs outs
 ·rw[h] at HX
  clear f h HB
  go_enter func5,ntmps5
  go_wp2_with fail
  refine yai HX.out ?_
  rintro e w2 ⟨rfl,k2⟩
  obtain⟨_,q0,q1,q2,f0,f1,f2⟩:=RB.keep HN.out k2
  obtain⟨y0,y1,y2⟩:=eY w2 (w.heap.size+1) _ _ _ q0 q1 q2 (.slice none 0 0) (.slice none 0 0) (.slice none 0 0)
  have R:Hid (Kept 0 0 w _):=Kept.new (Kept.trans HK.out k2) (fc w2 (w.heap.size+1) (.slice none 0 0) (.slice none 0 0) (.slice none 0 0)) xaa
  clear k2 HX HN HK
  go_wp2_with fail
  exact yay (v:=.tuple #[IW,.int .i64 1]) (by simp[results,results5,go_sem,y0,y1,y2]) rfl ⟨none,0,0,none,0,0,none,0,0,1,rfl,⟨λc=>(by cases c),λ_=>rfl⟩,R.out⟩
 ·rw[h] at HX
  have HP:Hid (∀W,Kept 0 0 w W->Calls prog 12 #[eR b1 n1 c1 b2 n2 c2 b3 n3 c3,.int .i64 0] W (SDo W (fY vs outs).1.length)):=λW kW=>Ix W b1 b2 b3 n1 c1 n2 c2 n3 c3 _ λW2 k2=>(Gm W2 b1 b2 b3 n1 c1 n2 c2 n3 c3 ins vs outs (f.keep (kW.trans k2)) h).mono λe w' ⟨a1,d1,a2,n2,d2,a3,d3,us,e,g,l,k⟩=>⟨a1,n1,d1,a2,d2,a3,n3,d3,by rw[e,<-l.len,<-g.v.len],k⟩
  clear f h
  generalize (fY vs outs).1.length=m at HP ⊢
  go_enter func5,ntmps5
  go_wp2_with fail
  refine yai HX.out ?_
  rintro e w2 ⟨rfl,k2⟩
  obtain⟨_,p0,p1,p2⟩:=G0.keep HB.out k2
  have HK2:Hid _:=Kept.trans HK.out k2
  have HN2:Hid _:=RB.keep HN.out k2
  clear k2 HX HN HK HB
  go_wp2_with fail
  refine yai (HP.out w2 HK2.out) ?_
  rintro e w3 ⟨a1,m1,d1,a2,d2,a3,m3,d3,rfl,k3⟩
  obtain⟨_,q0,q1,q2,f0,f1,f2⟩:=RB.keep HN2.out k3
  obtain⟨y0,y1,y2⟩:=eY w3 (w.heap.size+1) _ _ _ q0 q1 q2 (.slice a1 m1 d1) (.slice a2 m d2) (.slice a3 m3 d3)
  have R:Hid _:=(HK2.out.trans k3).new (fc w3 (w.heap.size+1) (.slice a1 m1 d1) (.slice a2 m d2) (.slice a3 m3 d3)) xaa
  clear k3 p0 p1 p2
  go_wp2_with fail
  exact yay (v:=.tuple #[eR a1 m1 d1 a2 m d2 a3 m3 d3,.int .i64 0]) (by simp[results,results5,go_sem,y0,y1,y2]) rfl ⟨a1,m1,d1,a2,m,d2,a3,m3,d3,0,rfl,⟨λ_=>⟨rfl,rfl⟩,λc=>(by cases c)⟩,R.out⟩
end
section
open Go.RowKit Flt
variable {ins outs:List Int} {us vs:List Vl}
def Usd (vs:List Vl)(outs:List Int)(k:Nat):Prop:=(∃o∈outs,o.toNat=k)\/∃i,i<vs.length/\∃o∈eN (vs.getD i Vl.zero),o.toNat=k
theorem sF {F:List Bool}{i:Nat}(h:F.getD i false=true):i<F.length:=by
 exact xhi
theorem uf {vs:List Vl}{outs:List Int}:∀k i,(ndI vs outs k).getD i false=true->(∃o∈outs,o.toNat=i)\/∃j,(ndI vs outs k).getD j false=true/\∃o∈eN (vs.getD j Vl.zero),o.toNat=i
 |0,i,h=>by
  have hi:=sF h
  rw[ja] at hi
  rw[ndI,gV _ _ _ (by simpa using hi),Bool.or_eq_true] at h
  rcases h with h|h
  ·simp[hi] at h
  ·obtain⟨o,ho,e⟩:=List.any_eq_true.1 h
   exact .inl ⟨o,ho,by simpa using e⟩
 |k+1,i,h=>by
  have key:(ndI vs outs k).getD i false=true->(∃o∈outs,o.toNat=i)\/∃j,(ndI vs outs (k+1)).getD j false=true/\∃o∈eN (vs.getD j Vl.zero),o.toNat=i:=λq=>(uf k i q).imp id λ⟨j,hj,r⟩=>⟨j,mS hj,r⟩
  have hi:=sF h
  rw[ja] at hi
  have h':=h
  rw[ndI] at h'
  by_cases c:(ndI vs outs k).getD (vs.length-1-k) false=true
  ·rw[if_pos c,gV _ _ _ (by rw[ja];exact hi),Bool.or_eq_true] at h'
   rcases h' with q|q
   ·exact key q
   ·obtain⟨o,ho,e⟩:=List.any_eq_true.1 q
    exact .inr ⟨_,mS c,o,ho,by simpa using e⟩
  ·rw[if_neg c] at h'
   exact key h'
theorem AT {ins:List Int}{F:List Bool}{vs:List Vl}(hv:∀j,j<vs.length->okV ins vs j=true)(hF:∀i,i<vs.length->F.getD i false=true->∀o∈eN (vs.getD i Vl.zero),F.getD o.toNat false=true):∀i,i<=vs.length->
  (∀q,q<(fL F vs i).1.length->∃j,j<i/\F.getD j false=true/\(fL F vs i).2.getD j 0=(q:Int))/\∀j,j<i->F.getD j false=true->eN ((fL F vs i).1.getD ((fL F vs i).2.getD j 0).toNat Vl.zero)=(eN (vs.getD j Vl.zero)).map λo=>(fL F vs i).2.getD o.toNat 0
 |0,_=>⟨λq hq=>by simp[fL] at hq,λj hj=>by omega⟩
 |i+1,hi=>by
  have D:=oJ hv hF i xaa
  obtain⟨h1,h2⟩:=AT hv hF i xaa
  rw[fL]
  by_cases c:F.getD i false=true
  ·rw[if_pos c]
   generalize fL F vs i=S at*
   have tt:∀j,j<vs.length->(S.2.set i S.1.length).getD j 0=if i=j then (S.1.length:Int) else S.2.getD j 0:=λj hj=>rE _ _ _ _ (by rw[D.l2];exact hj)
   refine⟨λq hq=>?_,λj hj hFj=>?_⟩
   ·simp only[yak,List.length_singleton] at hq
    by_cases e:q<S.1.length
    ·obtain⟨j,a,b,d⟩:=h1 q e
     exact⟨j,by omega,b,by simp only;rw[tt j xaa,if_neg xaa];exact d⟩
    ·exact⟨i,by omega,c,by simp only;rw[tt i xaa,if_pos rfl];omega⟩
   ·simp only
    rw[tt j xaa]
    by_cases e:i=j
    ·subst e
     rw[if_pos rfl,Int.toNat_natCast,mx,qo]
    ·rw[if_neg e]
     have t:=D.to0 j xaa hFj
     rw[nD _ _ xaa,h2 j xaa hFj]
     refine List.map_congr_left λo ho=>?_
     have:=jz (hv j xaa) o ho
     rw[tt _ xaa,if_neg xaa]
  ·rw[if_neg c]
   refine⟨λq hq=>?_,λj hj hFj=>?_⟩
   ·obtain⟨j,a,b⟩:=h1 q hq
    exact⟨j,by omega,b⟩
   ·by_cases e:j=i
    ·subst e;exact absurd hFj c
    ·exact h2 j xaa hFj
theorem x6 (h:okG ins vs outs=true):∀k,k<(fY vs outs).1.length->Usd (fY vs outs).1 (fY vs outs).2 k:=by
 obtain⟨_,_,h3,h4,_⟩:=iQ h
 have hF:∀i,i<vs.length->(ndI vs outs vs.length).getD i false=true->∀o∈eN (vs.getD i Vl.zero),(ndI vs outs vs.length).getD o.toNat false=true:=λi hi hF o ho=>kQ h3 vs.length yad i xaa hi hF o ho
 have D:=oJ h3 hF vs.length yad
 obtain⟨u1,u2⟩:=AT h3 hF vs.length yad
 intro k hk
 unfold fY at hk ⊢
 simp only at hk ⊢
 obtain⟨j,hj,hf,e⟩:=u1 k hk
 rcases uf _ j hf with⟨o,ho,rfl⟩|⟨i,hi,o,ho,rfl⟩
 ·exact .inl ⟨_,List.mem_map.2 ⟨o,ho,rfl⟩,by rw[e];rfl⟩
 ·have hil:=sF hi
  rw[ja] at hil
  have t:=D.to0 i hil hi
  exact .inr ⟨((fL (ndI vs outs vs.length) vs vs.length).2.getD i 0).toNat,by omega,_,by rw[u2 i hil hi];exact List.mem_map.2 ⟨o,ho,rfl⟩,by rw[e];rfl⟩
theorem Gn {tq:List Int}{v:Vl}(h:∀o∈eN v,tq.getD o.toNat 0=o):rnm tq v=v:=by
 have hc:=gX v.op
 unfold eN at h
 unfold rnm
 rcases (by omega:cnt v.op=0\/cnt v.op=1\/cnt v.op=2\/cnt v.op=3) with e|e|e|e<;>simp[e] at h ⊢<;>simp[h]
theorem EY {ins:List Int}{F:List Bool}{vs:List Vl}(hv:∀j,j<vs.length->okV ins vs j=true)(hF:∀i,i<vs.length->F.getD i false=true):∀i,i<=vs.length->(fL F vs i).1=vs.take i/\(fL F vs i).2.length=vs.length/\∀j,j<i->(fL F vs i).2.getD j 0=(j:Int)
 |0,_=>⟨rfl,by simp[fL],λj hj=>by omega⟩
 |i+1,hi=>by
  obtain⟨h1,h2,h3⟩:=EY hv hF i xaa
  rw[fL,if_pos (hF i xaa),h1]
  have hl:(vs.take i).length=i:=by simp;omega
  have tt:∀j,j<vs.length->((fL F vs i).2.set i ((vs.take i).length:Int)).getD j 0=if i=j then ((vs.take i).length:Int) else (fL F vs i).2.getD j 0:=λj hj=>rE _ _ _ _ (by rw[h2];exact hj)
  refine⟨?_,by simp[h2],λj hj=>?_⟩
  ·simp only
   rw[Gn λo ho=>?_,List.take_add_one,yal xaa,yah,yal xaa]
   ·rfl
   ·have:=jz (hv i xaa) o ho
    rw[tt _ xaa,if_neg xaa,h3 _ xaa]
    omega
  ·simp only
   rw[tt j xaa,hl]
   by_cases e:i=j
   ·rw[if_pos e,e]
   ·rw[if_neg e,h3 j xaa]
theorem vu (h:okG ins vs outs=true)(hu:∀k,k<vs.length->Usd vs outs k):fY vs outs=(vs,outs):=by
 obtain⟨_,_,h3,h4,_⟩:=iQ h
 have hF:∀m i,vs.length-i<=m->i<vs.length->(ndI vs outs vs.length).getD i false=true:=by
  intro m
  induction m with
  |zero=>intro i h1 h2;omega
  |succ m ih=>
   intro i h1 h2
   rcases hu i h2 with⟨o,ho,rfl⟩|⟨j,hj,o,ho,rfl⟩
   ·exact pl h4 _ o ho
   ·have:=jz (h3 j hj) o ho
    exact kQ h3 vs.length yad j xaa hj (ih j xaa hj) o ho
 obtain⟨a,b,c⟩:=EY h3 (λi hi=>hF _ i yad hi) vs.length yad
 unfold fY
 rw[a,yao yad]
 refine congrArg (Prod.mk vs) ?_
 unfold jZ
 conv=>rhs;rw[<-List.map_id outs]
 refine List.map_congr_left λo ho=>?_
 have:=h4 o ho
 rw[c _ xaa]
 show _=o
 omega
theorem svD (h:us.map sv=vs.map sv)(j:Nat):sv (us.getD j Vl.zero)=sv (vs.getD j Vl.zero):=by
 have:=congrArg (λl=>(l[j]?).getD (sv Vl.zero)) h
 simpa[List.getD_eq_getElem?_getD,List.getElem?_map,Option.getD_map] using this
theorem okD (h:us.map sv=vs.map sv):okG ins us outs=okG ins vs outs:=by
 have hl:us.length=vs.length:=by simpa using congrArg List.length h
 have hn:∀j,(us.getD j Vl.zero).len=(vs.getD j Vl.zero).len:=λj=>by have:=congrArg Vl.len (svD h j);exact this
 have hV:okV ins us=okV ins vs:=by
  funext j
  have:=svD h j
  unfold okV
  simp only[hn]
  generalize us.getD j Vl.zero=a at this
  generalize vs.getD j Vl.zero=b at this
  obtain⟨op,len,p,q,r,k⟩:=a
  obtain⟨op',len',p',q',r',k'⟩:=b
  unfold sv at this
  cases this
  rfl
 unfold okG
 rw[hl,hV,qp us vs hl λj _=>hn j]
theorem ndD {us vs:List Vl}(h:us.map sv=vs.map sv)(outs:List Int):∀k,ndI us outs k=ndI vs outs k
 |0=>by
  have hl:us.length=vs.length:=by simpa using congrArg List.length h
  rw[ndI,ndI,hl]
 |k+1=>by
  have hl:us.length=vs.length:=by simpa using congrArg List.length h
  have:=svD h (vs.length-1-k)
  rw[ndI,ndI,ndD h outs k,hl,show eN (us.getD (vs.length-1-k) Vl.zero)=eN (sv (us.getD (vs.length-1-k) Vl.zero)) from rfl,this]
  rfl
theorem dkD (F:List Bool)(us vs:List Vl):∀i,(fL F us i).1.length=(fL F vs i).1.length
 |0=>rfl
 |i+1=>by
  rw[fL,fL]
  split
  ·simp[dkD F us vs i]
  ·exact dkD F us vs i
theorem Iy (h:us.map sv=vs.map sv)(outs:List Int):(fY us outs).1.length=(fY vs outs).1.length:=by
 have hl:us.length=vs.length:=by simpa using congrArg List.length h
 unfold fY
 simp only
 rw[ndD h,hl]
 exact dkD _ _ _ _
