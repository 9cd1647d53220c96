import Derived.Test.YtaheilbiakhlgaaGreatP40
import Derived.Test.YtaheilbiakhlgaaGreatP39
namespace Go.Proofs.Z
variable{Zp:Prop}
open Tryz Go.RowKit Flt
set_option maxRecDepth 1000000
set_option maxHeartbeats 0
section
attribute[local go_sem] eF eE eD
theorem aL.qba(h:Zp:=by
 rcases Nat.eq_zero_or_pos ab with bz|bz
 case' inl=>have ad:(ab:Int)<=0:=xaa
 case' inl=>clear bz
 case' inr=>have af:(nv bs i:Int)%16=0:=hO aj.o
 all_goals
  clear aj
  rcases aQ.o with⟨bQ,aF⟩|⟨bQ,br,aF⟩
 case' inl.inl|inr.inl=>
  have br:(Y:Int)<=0:=xaa;clear bQ
 case' inl.inr|inr.inr=>
  have HO:V (¬(nv bs (ni bs i):Int)%2=1):=by show ¬_;omega
  clear br;go_wp2_with fail;refine yai au.o.next ?_;rintro e W2 ⟨rfl,t,an⟩;replace HK:V _:=HK.o.trans an;replace au:V _:=t;clear t an a7 aK aP;have o:=HO.o
 all_goals
  rw[<-aF]at au
  clear aF aQ
  go_wp2_with fail
  refine yai (Ns _ _ _ _ _ _ _ au.o.rd) ?_
  rintro e cf ⟨z,rfl,g,bJ,bA,bW⟩
  have h:V (sv ⟨1,d,0,0,0,z⟩=⟨1,d,0,0,0,fb (dfV bs p)⟩):=by show _=_;rw[<-g,<-AM];rfl
  clear g
  replace HK:V _:=HK.o.trans bW
  replace au:V _:=au.o.step bA bW
  clear bA bW
  go_wp2_with fail
  refine yai au.o.next ?_
  rintro e bv ⟨rfl,B,cb⟩
  replace HK:V _:=HK.o.trans cb
  replace au:V _:=B
  clear B cb
  have l:=cX.o
  have ch:V _:=bJ
  clear bJ
  obtain⟨_,bR,aS,bb,_,_,_⟩:=au.o.bx
  go_wp2_with fail
  refine yai (aL.o _ _ ⟨1,d,0,0,0,z⟩ au.o HK.o _ hN ch.o) ?_
  rintro e aG ⟨aA,cap',rfl,a8,aH⟩
  obtain⟨_,bo,az,aZ,bl,bG,bP⟩:=a8
  go_wp2_with fail
  obtain⟨bf,aO,aX⟩:=fg aG (w.heap.size+1) _ _ _ bo az aZ (.slice a1 Y c1) (hE aA (ab+1) cap') (.slice a3 aa c3)
  exact yay (v:=eX a1 Y c1 (some ⟨aA,0,none⟩) (ab+1) cap' a3 aa c3) (by simp[results,results41,go_sem,bf,aO,aX]) rfl (h.o ▸ aH)):Zp:=h
open aL in
theorem tT{w I P a n cap i bs a1 Z a3 Y c1 c2 aa c3 ins vs outs}(f:DG w I (.slice a1 Y c1) (.slice Z vs.length c2) (.slice a3 aa c3) ins vs outs)(C:RdF w P a n cap i bs)(hP:P<I)(hn:vs.length<=100000){p}(aF:(Y=0/\p=ni bs i)\/(0<Y/\nv bs (ni bs i)%2≠1/\p=ni bs (ni bs i)))(O:nv bs i%16=0\/vs.length=0):
  Calls prog 41 #[eX a1 Y c1 Z vs.length c2 a3 aa c3,hD P] w (GwO w I P a n cap (ni bs (dfI bs p)) bs (.slice a1 Y c1) (.slice Z vs.length c2) (.slice a3 aa c3) ins vs outs ⟨1,((1+nv bs (dfI bs p)%4:Nat):Int),0,0,0,fb (dfV bs p)⟩):=by
 have l:(1:Int)+(nv bs (dfI bs p):Int)%4=((1+nv bs (dfI bs p)%4:Nat):Int):=xaa;have K:=fU C.ys (dfI bs p);generalize 1+nv bs (dfI bs p)%4=d at l⊢;have cX:V _:=l;have aQ:V _:=aF;clear l aF;exact qaz
end
section
variable{bs ins:List Int}{vs:List Vl}
def opT(k:Nat):Int:=[0,2,3,4,5,7,4,2,3].getD k 0
def gwM(ins:List Int)(vs:List Vl)(bs:List Int)(i:Nat):Vl×Nat:=
 if nv bs i%16=0\/vs.length=0 then
  if 0<ins.length/\nv bs (ni bs i)%2=1 then (⟨0,ins.getD (nv bs (ni bs (ni bs i))%ins.length) 0,((nv bs (ni bs (ni bs i))%ins.length:Nat):Int),0,0,0⟩,ni bs (ni bs (ni bs i)))
  else (⟨1,((1+nv bs (dfI bs (if 0<ins.length then ni bs (ni bs i)else ni bs i))%4:Nat):Int),0,0,0,fb (dfV bs (if 0<ins.length then ni bs (ni bs i)else ni bs i))⟩,ni bs (dfI bs (if 0<ins.length then ni bs (ni bs i)else ni bs i)))
 else if nv bs i%16<9 then (⟨opT (nv bs i%16),(vd vs (nv bs (ni bs i)%vs.length)).len,((nv bs (ni bs i)%vs.length:Nat):Int),jU vs (vd vs (nv bs (ni bs i)%vs.length)).len (nv bs (ni bs (ni bs i))),0,0⟩,ni bs (ni bs (ni bs i)))
 else if nv bs i%16=9 then (⟨6,(vd vs (nv bs (ni bs i)%vs.length)).len,((nv bs (ni bs i)%vs.length:Nat):Int),0,0,0⟩,ni bs (ni bs i))
 else if nv bs i%16=10 then (⟨8,(vd vs (nv bs (ni bs i)%vs.length)).len,((nv bs (ni bs i)%vs.length:Nat):Int),jU vs (vd vs (nv bs (ni bs i)%vs.length)).len (nv bs (ni bs (ni bs i))),jU vs (vd vs (nv bs (ni bs i)%vs.length)).len (nv bs (ni bs (ni bs (ni bs i)))),0⟩,ni bs (ni bs (ni bs (ni bs i))))
 else if nv bs i%16=11 then (⟨9,1,((nv bs (ni bs i)%vs.length:Nat):Int),0,0,0⟩,ni bs (ni bs i))
 else if nv bs i%16=12 then (⟨11,1,((nv bs (ni bs i)%vs.length:Nat):Int),0,((nv bs (ni bs (ni bs i))%(vd vs (nv bs (ni bs i)%vs.length)).len.toNat:Nat):Int),0⟩,ni bs (ni bs (ni bs i)))
 else if nv bs i%16=13 then (⟨13,(vd vs (nv bs (ni bs i)%vs.length)).len,((nv bs (ni bs i)%vs.length:Nat):Int),0,0,0⟩,ni bs (ni bs i))
 else if jU vs 1 (nv bs (ni bs (ni bs i)))<0 then (⟨9,1,((nv bs (ni bs i)%vs.length:Nat):Int),0,0,0⟩,ni bs (ni bs (ni bs (ni bs i))))
 else if nv bs i%16=14 then (⟨10,((1+nv bs (ni bs (ni bs (ni bs i)))%4:Nat):Int),jU vs 1 (nv bs (ni bs (ni bs i))),0,0,0⟩,ni bs (ni bs (ni bs (ni bs i))))
 else (⟨12,((1+nv bs (ni bs (ni bs (ni bs i)))%4:Nat):Int),jU vs 1 (nv bs (ni bs (ni bs i))),0,((nv bs (ni bs (ni bs (ni bs (ni bs i))))%(1+nv bs (ni bs (ni bs (ni bs i)))%4):Nat):Int),0⟩,ni bs (ni bs (ni bs (ni bs (ni bs i)))))
theorem LM{w I P a n cap i a1 Z a3 Y c1 c2 aa c3 outs}(f:DG w I (.slice a1 Y c1) (.slice Z vs.length c2) (.slice a3 aa c3) ins vs outs)(C:RdF w P a n cap i bs)(hP:P<I)(hn:vs.length<=100000)(bQ:∀k,k<vs.length->1<=(vd vs k).len/\(vd vs k).len<=1000):
  Calls prog 41 #[eX a1 Y c1 Z vs.length c2 a3 aa c3,hD P] w (GwO w I P a n cap (gwM ins vs bs i).2 bs (.slice a1 Y c1) (.slice Z vs.length c2) (.slice a3 aa c3) ins vs outs (gwM ins vs bs i).1):=by
 have af:Y=ins.length:=jS f.r1;unfold gwM;by_cases ai:nv bs i%16=0\/vs.length=0
 ·rw[hI ai];by_cases B:0<ins.length/\nv bs (ni bs i)%2=1
  ·rw[hI B];have:=KB f C hP hn xaa B.2 ai;rw[af]at this⊢;exact this
  rw[hG B];by_cases U:0<ins.length
  ·rw[hI U];exact tT f C hP hn (.inr ⟨by omega,λc=>B ⟨U,c⟩,rfl⟩) ai
  rw[hG U];exact tT f C hP hn (.inl ⟨by omega,rfl⟩) ai
 rw[hG ai];have aM:0<vs.length:=xaa;have ap:nv bs i%16<16:=Nat.mod_lt _ xaa;have aw:=bQ _ (Nat.mod_lt (nv bs (ni bs i)) aM);by_cases X:nv bs i%16<9
 ·rw[hI X];refine Hg f C hP hn aM rfl ?_;rcases (by omega:nv bs i%16=1\/nv bs i%16=2\/nv bs i%16=3\/nv bs i%16=4\/nv bs i%16=5\/nv bs i%16=6\/nv bs i%16=7\/nv bs i%16=8) with e|e|e|e|e|e|e|e
  all_goals (rw[e];decide)
 rw[hG X];by_cases c:nv bs i%16=9
 ·rw[hI c];exact tH f C hP hn aM rfl (.inl ⟨c,rfl,rfl⟩)
 rw[hG c];by_cases c:nv bs i%16=10
 ·rw[hI c];exact He f C hP hn aM rfl c
 rw[hG c];by_cases c:nv bs i%16=11
 ·rw[hI c];exact tH f C hP hn aM rfl (.inr (.inl ⟨c,rfl,rfl⟩))
 rw[hG c];by_cases c:nv bs i%16=12
 ·rw[hI c];exact D4 f C hP hn aM xaa xaa xaa c
 rw[hG c];by_cases c:nv bs i%16=13
 ·rw[hI c];exact tH f C hP hn aM rfl (.inr (.inr ⟨c,rfl,rfl⟩))
 rw[hG c];by_cases b:jU vs 1 (nv bs (ni bs (ni bs i)))<0
 ·rw[hI b];exact De f C hP hn aM rfl b xaa
 rw[hG b];by_cases c:nv bs i%16=14
 ·rw[hI c];exact Df f C hP hn aM rfl xaa c
 rw[hG c];exact Gj f C hP hn aM rfl xaa xaa
theorem B9(vs j):(vd (vs.map sv) j).len=(vd vs j).len:=by
 exact xim
theorem zD(vs q fr):∀m k,nQ (vs.map sv) q fr m k=nQ vs q fr m k
 |0,_=>rfl
 |m+1,k=>by
  rw[nQ,nQ,zD vs q fr m (k+1),List.length_map]
  rw[show((vs.map sv).getD ((fr+k)%vs.length) hK).len=(vs.getD ((fr+k)%vs.length) hK).len from B9 vs _]
theorem Hh(vs q fr):jU (vs.map sv) q fr=jU vs q fr:=by
 unfold jU;rw[zD,List.length_map]
theorem Hi(ins vs bs i):gwM ins (vs.map sv) bs i=gwM ins vs bs i:=by
 unfold gwM;simp only[List.length_map,B9,Hh]
theorem xL{i}(hi:∀k,k<ins.length->1<=ins.getD k 0/\ins.getD k 0<=1000)(bQ:∀k,k<vs.length->1<=(vd vs k).len/\(vd vs k).len<=1000):1<=(gwM ins vs bs i).1.len/\(gwM ins vs bs i).1.len<=1000:=by
 unfold gwM;by_cases ai:nv bs i%16=0\/vs.length=0
 ·rw[hI ai];split
  ·rename_i B;exact hi _ (Nat.mod_lt _ B.1)
  simp only;omega
 rw[hG ai];have aw:=bQ _ (Nat.mod_lt (nv bs (ni bs i)) (by omega:0<vs.length));repeat' split
 all_goals (simp only;omega)
end
section
attribute[local go_sem] eF eE eD
variable{aC W':World}{p P I n cap i m g c F:Nat}{a9 N aD u1 u2 u3:Value}{a:Option Addr}{bs ins outs K ab:List Int}{vs bh:List Vl}{S:Nat->Prop}
theorem fQ(w){bA rest o a Q}(H:o.guard=none)(s x)
  (ax:o.op=.call {callee:=.builtin .append,args:=#[s,x],argTypes:=#[23,23]})
  (I) (v) (aW) (ae:a.eval s=v) (aU:w.ownsRow I 3 1 v aW.length (aW.map (Value.int .i64)))
  (aM) (y) (ap:a.eval x=.slice (some aM) 1 1) (f:w.cell? aM=some (hF y))
  (l:aW.length+1<=1000000) (af:I<=w.heap.size)
  (h:∀g cap n J,n=(aW++[y]).length->J.ownsRow I 3 1 (hE g n cap) n ((aW++[y]).map (Value.int .i64))->Chg (λb=>v.ownBlock=some b) w J->(v.ownBlock=some g\/g=w.heap.size)->wpList prog bA Q rest (a.put o.dst (hE g n cap)) J):wpList prog bA Q (o::rest) a w:=by
 obtain⟨bC,hi,bn,bQ,br⟩:=info_parts qk;refine wpList_append_lies w H s x _ ax I 3 _ _ 1 8 underlying23 hi bn bQ br rfl xab v _ _ ae aU _ 1 1 [hF y] ap rfl ?_ ?_ xab (by unfold maxLen;omega) xaa af _ rfl ?_
 ·grind[Addr.add]
 ·intro u aI;simp at aI;subst aI;rfl
 intro g cap J B U h3 _;have e:aW.length+1=(aW++[y]).length:=by grind
 rw[e]at B⊢;refine h g _ _ _ rfl ?_ (gX U) h3;grind
structure Dx(w0 W:World)(P:Nat)(a:Option Addr)(n cap i:Nat)(bs:List Int)(u1 u2 u3:Value)(ins:List Int)(vs:List Vl)(outs:List Int):Prop where
 rd:RdF W P a n cap i bs
 dg:DG W (w0.heap.size+2) u1 u2 u3 ins vs outs
 bx:RB W (w0.heap.size+1) u1 u2 u3
 rs:RB W w0.heap.size iR iR iR
 p0:P<w0.heap.size
 k0:Kept P (P+1) w0 W
theorem Dx.step{W}(f:Dx aC W P a n cap i bs u1 u2 u3 ins vs outs)(C:RdF W' P a n cap F bs)(k:Kept P (P+1) W W'):Dx aC W' P a n cap F bs u1 u2 u3 ins vs outs:=
 ⟨C,f.dg.kept k (hO f.p0),f.bx.kept k (hO f.p0),f.rs.kept k (hO f.p0),f.p0,f.k0.trans k⟩
theorem Dx.keep{W}(f:Dx aC W P a n cap i bs u1 u2 u3 ins vs outs)(k:Kept 0 0 W W'):Dx aC W' P a n cap i bs u1 u2 u3 ins vs outs:=f.step (f.rd.keep0 k) (ft k)
theorem Dx.next{W}(f:Dx aC W P a n cap i bs u1 u2 u3 ins vs outs):
  Calls prog 32 #[hD P] W λe W'=>e=.returned (hF (nv bs i:Int))/\Dx aC W' P a n cap (ni bs i) bs u1 u2 u3 ins vs outs:=
 (jg W P a n cap i bs f.rd).mono λ_ _ q=>⟨q.1,f.step q.2.1 q.2.2.1⟩
theorem Dx.start(C:RdF aC P a n cap i bs):Dx aC ((aC.alloc fE).alloc fE) P a n cap i bs iR iR iR [] [] []:=by
 have am:=ez 0 0 aC fE;have an:=ez 0 0 (aC.alloc fE) fE;have hb:=gg (aC.alloc fE);rw[show(aC.alloc _).heap.size=aC.heap.size+1 by simp]at hb;refine⟨C.keep0 (am.trans an),⟨yav _ _ _ _,yav _ _ _ _,yav _ _ _ _,?_,?_,?_,?_,by simp⟩,hb,(gg _).keep an,C.lt,ft (am.trans an)⟩
 ·intro b h;cases h
 ·intro b h;cases h
 ·intro b h;cases h
 intro v h;cases h
theorem Dx.set{W W2 ba bc z}(f:Dx aC W P a n cap i bs u1 u2 u3 ins vs outs)(c:Chg S W W')(aU:∀b,S b->b=P\/aC.heap.size+2<=b)(C:RdF W' P a n cap F bs)(G:DG W' (aC.heap.size+2) ba bc z K bh ab)(k:Kept (aC.heap.size+1) (aC.heap.size+1+1) W' W2)(hb:RB W2 (aC.heap.size+1) ba bc z):Dx aC W2 P a n cap F bs ba bc z K bh ab:=by
 have aF:=f.p0;have e:∀o,_:=λo=>c.cell (p:=⟨aC.heap.size,o,none⟩) f.rs.sz (λq=>by have:=aU _ q;simp at this;omega);have j:∀o,_:=λo=>c.frozen (p:=⟨aC.heap.size,o,none⟩) f.rs.sz (λq=>by have:=aU _ q;simp at this;omega);have av:RB W' _ _ _ _:=⟨yaj f.rs.sz c.size,hR e f.rs.q0,hR e f.rs.q1,hR e f.rs.q2,hR j f.rs.f0,hR j f.rs.f1,hR j f.rs.f2⟩
 refine⟨C.keep k (.inl xaa),G.kept k xaa,hb,av.kept k xaa,aF,⟨k.os.trans (c.os.trans f.k0.os),k.tape.trans (c.tape.trans f.k0.tape),k.output.trans (c.output.trans f.k0.output),yan f.k0.size (yan c.size k.size),λb hb hn=>?_⟩⟩;have B:=f.k0.size;have U:=c.size;rw[k.block b xaa xaa,c.block b xaa (λq=>hO (aU b q))];exact f.k0.block b hb hn
theorem jM{W}(t:RB W p a9 N aD)(c:Chg S W W')(aF:¬S p):RB W' p a9 N aD:=
 have e:∀o,W'.cell? ⟨p,o,none⟩=W.cell? ⟨p,o,none⟩:=λo=>c.cell (p:=⟨p,o,none⟩) t.sz aF
 have j:∀o,W'.frozen? ⟨p,o,none⟩=W.frozen? ⟨p,o,none⟩:=λo=>c.frozen (p:=⟨p,o,none⟩) t.sz aF
 ⟨yaj t.sz c.size,hR e t.q0,hR e t.q1,hR e t.q2,hR j t.f0,hR j t.f1,hR j t.f2⟩
theorem pi{W}(t:RB W p a9 N aD)(x y z):RB (fF W p x y z) p x y z:=by
 obtain⟨bd,aR,aV⟩:=fg W p _ _ _ t.q0 t.q1 t.q2 x y z;have k:=fh W p x y z;refine⟨yaj t.sz k.size,bd,aR,aV,?_,?_,?_⟩
 ·unfold fF;simp[t.f0]
 ·unfold fF;simp[t.f1]
 unfold fF;simp[t.f2]
theorem xM{W}(t:RB W p a9 N aD)(x):RB (W.setCell ⟨p,0,none⟩ x) p x N aD/\RB (W.setCell ⟨p,2,none⟩ x) p a9 N x:=by
 refine⟨⟨by simpa using t.sz,fR _ _ _ _ _ t.q0,by rw[eN _ _ _ _ _ _ (.inr xaa)];exact t.q1,by rw[eN _ _ _ _ _ _ (.inr xaa)];exact t.q2,by simp[t.f0],by simp[t.f1],by simp[t.f2]⟩,⟨by simpa using t.sz,by rw[eN _ _ _ _ _ _ (.inr xaa)];exact t.q0,by rw[eN _ _ _ _ _ _ (.inr xaa)];exact t.q1,fR _ _ _ _ _ t.q2,by simp[t.f0],by simp[t.f1],by simp[t.f2]⟩⟩
theorem DG.vals{W}(f:DG W I u1 u2 u3 ins vs outs)(X:Chg (λb=>u2.ownBlock=some b) W W')(ax:W'.ownsRow I 40 6 (hE g m c) m (fW bh))(aw:m=bh.length)(aQ:u2.ownBlock=some g\/W.heap.size<=g)(O:∀v∈bh,v.k<18446744073709551616):DG W' I u1 (hE g m c) u3 ins bh outs:=by
 subst aw;refine⟨fI f.r1 X λb hb ak=>f.a12 b hb ak,ax,fI f.r3 X λb hb ak=>f.a23 b ak hb,?_,f.a13,?_,O,yan f.sz X.size⟩
 ·intro b hb ak;have e:b=g:=by simpa[Value.ownBlock] using ak.symm
  subst e;rcases aQ with c|c
  ·exact f.a12 _ hb c
  have:=(eI f.r1 hb).2;omega
 intro b hb ak;have e:b=g:=by simpa[Value.ownBlock] using hb.symm
 subst e;rcases aQ with c|c
 ·exact f.a23 _ c ak
 have:=(eI f.r3 ak).2;omega
theorem DG.ins_{W}(f:DG W I u1 u2 u3 ins vs outs)(X:Chg (λb=>u1.ownBlock=some b) W W')(ax:W'.ownsRow I 3 1 (hE g m c) m (K.map (Value.int .i64)))(aw:m=K.length)(aQ:u1.ownBlock=some g\/W.heap.size<=g):DG W' I (hE g m c) u2 u3 K vs outs:=by
 subst aw;refine⟨ax,fI f.r2 X λb hb ak=>f.a12 b ak hb,fI f.r3 X λb hb ak=>f.a13 b ak hb,?_,?_,f.a23,f.k,yan f.sz X.size⟩
 ·intro b hb ak;have e:b=g:=by simpa[Value.ownBlock] using hb.symm
  subst e;rcases aQ with c|c
  ·exact f.a12 _ c ak
  have:=(eI f.r2 ak).2;omega
 intro b hb ak;have e:b=g:=by simpa[Value.ownBlock] using hb.symm
 subst e;rcases aQ with c|c
 ·exact f.a13 _ c ak
 have:=(eI f.r3 ak).2;omega
theorem DG.outs_{W}(f:DG W I u1 u2 u3 ins vs outs)(X:Chg (λb=>u3.ownBlock=some b) W W')(ax:W'.ownsRow I 3 1 (hE g m c) m (ab.map (Value.int .i64)))(aw:m=ab.length)(aQ:u3.ownBlock=some g\/W.heap.size<=g):DG W' I u1 u2 (hE g m c) ins vs ab:=by
 subst aw;refine⟨fI f.r1 X λb hb ak=>f.a13 b hb ak,fI f.r2 X λb hb ak=>f.a23 b hb ak,ax,f.a12,?_,?_,f.k,yan f.sz X.size⟩
 ·intro b hb ak;have e:b=g:=by simpa[Value.ownBlock] using ak.symm
  subst e;rcases aQ with c|c
  ·exact f.a13 _ hb c
  have:=(eI f.r1 hb).2;omega
 intro b hb ak;have e:b=g:=by simpa[Value.ownBlock] using ak.symm
 subst e;rcases aQ with c|c
 ·exact f.a23 _ hb c
 have:=(eI f.r2 hb).2;omega
theorem aR.qbg(h:Zp:=by
 have hb:=jM f1.bx X (λc=>hO (aT _ c));exact⟨_,_,rfl,hb,f1.set X (λb hb=>.inr (aT b hb)) (rt f1.rd X λb hb=>hO (aT b hb)) (f1.dg.vals X aU xac aQ O) (fh _ _ _ _ _) (pi hb _ _ _)⟩):Zp:=h
open aR in
theorem Dx.put{aC W P a n cap i bs a1 Z a3 Y c1 c2 aa c3 ins vs outs ay}(f:Dx aC W P a n cap i bs (.slice a1 Y c1) (.slice Z vs.length c2) (.slice a3 aa c3) ins vs outs)(k:Kept 0 0 W ay)(v)(aM:v.k<18446744073709551616)(hn:vs.length<=100000):
  Calls prog 37 #[eX a1 Y c1 Z vs.length c2 a3 aa c3,v.agg] ay λe aG=>∃aA cap',e=.returned (eX a1 Y c1 (some ⟨aA,0,none⟩) (vs.length+1) cap' a3 aa c3)/\RB aG (aC.heap.size+1) (.slice a1 Y c1) (.slice Z vs.length c2) (.slice a3 aa c3)/\Dx aC (fF aG (aC.heap.size+1) (.slice a1 Y c1) (hE aA (vs.length+1) cap') (.slice a3 aa c3)) P a n cap i bs (.slice a1 Y c1) (hE aA (vs.length+1) cap') (.slice a3 aa c3) ins (vs++[v]) outs:=by
 have f1:=f.keep k;have aF:=f.p0;refine(rN _ _ _ _ _ _ _ _ _ _ _ v f1.dg.r2 f1.dg.sz xaa).mono ?_;rintro e aG ⟨aA,cap',rfl,aU,ae⟩;have aT:∀b,(Value.slice Z _ _).ownBlock=some b->_:=λb hb=>(eI f1.dg.r2 hb).1;exact qbf
theorem Dx.grow{W a1 Z a3 Y c1 c2 aa c3}(f:Dx aC W P a n cap i bs (.slice a1 Y c1) (.slice Z vs.length c2) (.slice a3 aa c3) ins vs outs)(hn:vs.length<=100000)(bQ:∀k,k<vs.length->1<=(vd vs k).len/\(vd vs k).len<=1000):
  Calls prog 41 #[eX a1 Y c1 Z vs.length c2 a3 aa c3,hD P] W λe aG=>∃v aA cap',e=.returned (eX a1 Y c1 (some ⟨aA,0,none⟩) (vs.length+1) cap' a3 aa c3)/\sv v=(gwM ins vs bs i).1/\RB aG (aC.heap.size+1) (.slice a1 Y c1) (.slice Z vs.length c2) (.slice a3 aa c3)/\Dx aC (fF aG (aC.heap.size+1) (.slice a1 Y c1) (hE aA (vs.length+1) cap') (.slice a3 aa c3)) P a n cap (gwM ins vs bs i).2 bs (.slice a1 Y c1) (hE aA (vs.length+1) cap') (.slice a3 aa c3) ins (vs++[v]) outs:=by
 have aF:=f.p0;refine(LM f.dg f.rd xaa hn bQ).mono ?_;rintro e aG ⟨v,aA,cap',rfl,ai,G,av,ak,aQ⟩;have aT:∀b,(Value.slice Z vs.length c2).ownBlock=some b->aC.heap.size+2<=b:=λb hb=>(eI f.dg.r2 hb).1;have hb:=jM f.bx ak (by rintro (c|c);omega;have:=aT _ c;omega);exact⟨v,aA,cap',rfl,ai,hb,f.set ak (by rintro b (c|c);exact .inl c;exact .inr (aT b c)) av G (fh _ _ _ _ _) (pi hb _ _ _)⟩
theorem Dx.ins_{W x}(f:Dx aC W P a n cap i bs u1 u2 u3 ins vs outs)(X:Chg (λb=>u1.ownBlock=some b) W W')(ax:W'.ownsRow (aC.heap.size+2) 3 1 (hE g m c) m ((ins++[x]).map (Value.int .i64)))(aw:m=(ins++[x]).length)(aQ:u1.ownBlock=some g\/g=W.heap.size):Dx aC (W'.setCell ⟨aC.heap.size+1,0,none⟩ (hE g m c)) P a n cap i bs (hE g m c) u2 u3 (ins++[x]) vs outs:=by
 have aF:=f.p0;have aT:∀b,u1.ownBlock=some b->_:=λb hb=>(eI f.dg.r1 hb).1;have hb:=jM f.bx X (λc=>hO (aT _ c));exact f.set X (λb hb=>.inr (aT b hb)) (rt f.rd X λb hb=>hO (aT b hb)) (f.dg.ins_ X ax aw (aQ.imp id λe=>Nat.le_of_eq e.symm)) (eU _ _ _ yac) (xM hb _).1
theorem Dx.outs_{W x}(f:Dx aC W P a n cap i bs u1 u2 u3 ins vs outs)(X:Chg (λb=>u3.ownBlock=some b) W W')(ax:W'.ownsRow (aC.heap.size+2) 3 1 (hE g m c) m ((outs++[x]).map (Value.int .i64)))(aw:m=(outs++[x]).length)(aQ:u3.ownBlock=some g\/g=W.heap.size):Dx aC (W'.setCell ⟨aC.heap.size+1,2,none⟩ (hE g m c)) P a n cap i bs u1 u2 (hE g m c) ins vs (outs++[x]):=by
 have aF:=f.p0;have aT:∀b,u3.ownBlock=some b->_:=λb hb=>(eI f.dg.r3 hb).1;have hb:=jM f.bx X (λc=>hO (aT _ c));exact f.set X (λb hb=>.inr (aT b hb)) (rt f.rd X λb hb=>hO (aT b hb)) (f.dg.outs_ X ax aw (aQ.imp id λe=>Nat.le_of_eq e.symm)) (eU _ _ _ yac) (xM hb _).2
variable{w W W':World}{P n cap i j:Nat}{a:Option Addr}{bs aW:List Int}{u:Value}
structure Iw(w:World)(P n cap:Nat)(a:Option Addr)(bs:List Int)(i:Nat)(js:List Int)(u:Value)(W:World):Prop where
 rd:RdF W P a n cap i bs
 own:W.ownsRow w.heap.size 3 1 u js.length (js.map (Value.int .i64))
 p0:P<w.heap.size
 kp:Kept P (P+1) w W
theorem Iw.step(h:Iw w P n cap a bs i aW u W)(r:RdF W' P a n cap j bs)(k:Kept P (P+1) W W'):Iw w P n cap a bs j aW u W':=
 have aF:=h.p0
 ⟨r,fY h.own k λ_ e=>.inr (hO ((eI h.own e).1)),aF,h.kp.trans k⟩
theorem Iw.keep0(h:Iw w P n cap a bs i aW u W)(k:Kept 0 0 W W'):Iw w P n cap a bs i aW u W':=h.step (h.rd.keep0 k) (ft k)
theorem Iw.next(h:V (Iw w P n cap a bs i aW u W)):Calls prog 32 #[hD P] W λe W'=>e=.returned (hF (nv bs i:Int))/\Iw w P n cap a bs (ni bs i) aW u W':=
 (jg W P a n cap i bs h.o.rd).mono λ_ _ ⟨e,r,k,_⟩=>⟨e,h.o.step r k⟩
theorem Iw.app(h:Iw w P n cap a bs i aW u W){v}(aw:m=(aW++[v]).length)(o:W'.ownsRow w.heap.size 3 1 (hE g m c) m ((aW++[v]).map (Value.int .i64)))(k:Chg (λb=>u.ownBlock=some b) W W'):Iw w P n cap a bs i (aW++[v]) (hE g m c) W':=by
 subst aw;have al:Kept _ _ W _:=⟨k.os,k.tape,k.output,k.size,λb hb hn=>k.block b hb λe=>hn (eI h.own e)⟩
 exact⟨h.rd.keep al (.inl h.p0),o,h.p0,h.kp.new al yad⟩
theorem Iw.form(h:Iw w P n cap a bs i aW u W):∃aE cE,u=.slice aE aW.length cE:=by
 rcases h.own.2 with⟨e,bg⟩|⟨g,c,_,e,_⟩
 ·exact⟨_,0,by rw[e,bg]⟩
 exact⟨_,c,e⟩
def slN:Value->Nat
 |.slice _ m _=>m
 |_=>0
def PsO(w:World)(P n cap:Nat)(a:Option Addr)(bs:List Int)(j:Nat)(e:Ending)(w':World):Prop:=∃v,e=.returned v/\RdF w' P a n cap j bs/\Kept P (P+1) w w'
theorem KC(C:RdF w P a n cap i bs):Calls prog 14 #[hD P] w (PsO w P n cap a bs (niN bs (ni bs i) (nv bs i%6))):=by
 have ap:=fU C.ys i;have bw:V _:=jg _ _ _ _ _ _ _ C;have hP:=C.lt;have bV:V _:=λj=>fU C.ys j;clear C;obtain⟨nn,f,ad⟩:∃m:Nat,nv bs i%6=m/\(nv bs i:Int)%6=m:=⟨_,rfl,by omega⟩
 have bm:nn<6:=xaa;rw[f];clear f;go_enter func14,ntmps14;go_upto_region 2 with (go_at_call 32;refine yai bw.o ?_;rintro e ay ⟨rfl,av,am,-⟩;have bU:V (Iw w P n _ a _ (niN bs (ni _ i) 0) [] _ _):=⟨av,yav _ _ _ _,hP,am⟩;clear av am);clear bw;generalize nv _ i=x at*;go_wp2_with fail;rw[ad];go_loopw [5,6] (λu t W=>∃(k:Nat) (aW:List Int),k<=nn/\aW.length=k/\t=hF k/\V (Iw w P n cap a bs (niN bs (ni bs i) k) aW u W)) (λ_ t _=>nn-(intOf t).toNat)
 case atStart=>exact⟨0,_,Nat.zero_le _,rfl,rfl,bU.o⟩
 case round=>
  obtain⟨k,aW,O,(z:V _),rfl,bn⟩:=hrel;clear bU;have h:aW.length<=7:=hO z.o;by_cases aB:k<nn
  ·have bU:V _:=bn.o;have cd:V (niN _ (ni bs i) (k+1)=ni bs _):=rfl;clear bn;generalize niN _ _ k=p at*;have bS:=bV.o p
   go_wp2_with (first
    |(go_at_call 32;refine yai (Iw.next bU) ?_;rintro e W2 ⟨rfl,bn⟩;have bp:V _:=λo=>bn.keep0 (ez 0 0 _ o);clear bn bU)
    |(at_builtin;refine fQ _ rfl _ _ rfl _ u5 _ rfl (bp.o _).own _ ((nv bs p:Int)%5) rfl xac xaa (bp.o _).kp.size ?_;intro g9 X n9 be bO r H _;have ak:V _:=(bp.o _).app bO r H;clear bO r H))
   go_roundw;exact⟨k+1,aW++[(nv bs p:Int)%5],by omega,by rw[yak,z.o];rfl,by go_num,hR cd.o ak.o⟩;simp[intOf];omega
  have bZ:k=nn:=xaa;subst bZ;have bU:V _:=bn.o;clear bn;obtain⟨aE,cE,aI⟩:=bU.o.form;subst aI;have bp:V _:=λo=>bU.o.keep0 (ez 0 0 _ o);rcases (by omega:(x:Int)=250\/(x:Int)=251\/(x:Int)=252\/((x:Int)≠250/\(x:Int)≠251/\(x:Int)≠252)) with ap|ap|ap|⟨ap,cq,bX⟩
  ·go_wp2_with (at_builtin;refine fQ _ rfl _ _ rfl _ _ _ rfl (bp.o _).own _ 5 rfl xac xaa (bp.o _).kp.size ?_;intro g9 X n9 be bO r H _;have ak:V _:=(bp.o _).app bO r H;clear bO r H);go_ret;exact⟨_,rfl,ak.o.rd,ak.o.kp⟩
  ·go_wp2_with (at_builtin;refine fQ _ rfl _ _ rfl _ _ _ rfl (bp.o _).own _ (-1) rfl xac xaa (bp.o _).kp.size ?_;intro g9 X n9 be bO r H _;have ak:V _:=(bp.o _).app bO r H;clear bO r H);go_ret;exact⟨_,rfl,ak.o.rd,ak.o.kp⟩
  ·clear bp ad;obtain rfl:x=252:=xaa;go_wp2_with fail;clear ap;go_loopw [5] (λu W=>∃(m cE:Nat) (aE:Option Addr) (aW:List Int),m<=51/\aW.length=m/\u=.slice aE m cE/\V (Iw w P n cap a bs (niN bs (ni bs i) k) aW u W)) (λu _=>51-slN u)
   case atStart=>exact⟨_,_,_,_,by omega,rfl,rfl,bU.o⟩
   case round=>
    obtain⟨m,cE,aE,ae,aw,(HL:V _),rfl,bn⟩:=hrel;have bU:V _:=bn.o;have bp:V _:=λo=>bn.o.keep0 (ez 0 0 _ o);clear bn;have l:ae.length<=51:=hO HL.o;by_cases bK:(m:Int)<50+k%2
    ·go_wp2_with (at_builtin;refine fQ _ rfl _ _ rfl _ _ _ rfl (bp.o _).own _ (k%5) rfl xac xaa (bp.o _).kp.size ?_;intro g9 X n9 be bO r H _;have ak:V _:=(bp.o _).app bO r H;replace bO:V _:=bO;clear r H);have bB:n9=m+1:=by rw[bO.o,yak,HL.o];rfl
     go_roundw
     case rel=>exact⟨_,_,_,_,_,_,_,_,_,_,_,_,⟨_,_,_,_,by omega,bO.o.symm,rfl,ak.o⟩,rfl⟩
     case measure=>show 51-n9<51-m;omega
    go_wp2;go_ret;exact⟨_,rfl,bU.o.rd,bU.o.kp⟩
  go_wp2;go_ret;exact⟨_,rfl,bU.o.rd,bU.o.kp⟩
