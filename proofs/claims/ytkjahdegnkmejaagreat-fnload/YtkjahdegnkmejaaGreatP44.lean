import Derived.Test.YtkjahdegnkmejaaGreatP43
import Derived.Test.YtkjahdegnkmejaaGreatP24
import Derived.Test.YtkjahdegnkmejaaGreatP12
namespace Go.Proofs.Z
variable{Zp:Prop}
open Tryz Go.RowKit Flt
set_option maxRecDepth 1000000
set_option maxHeartbeats 0
section
attribute[local go_sem] eE eC eB
variable{bS:Array Oper}{I:Nat}{v:Value}{bs:List Int}{Q:Exit->Act->World->Prop}
def gm(v:Int):List Int:=[v%256,v/256]
def iA(b:Nat):Nat->List Int
 |0=>[]
 |k+1=>iA b k++[((b/256 ^ k%256:Nat):Int)]
def fx(s:Ste):List Int:=[s.len,s.n,s.dst,s.a,s.b,s.c]
def lZ(s:Ste):List Int:=[s.op]++(fx s).flatMap gm++(if s.op=1 then iA (fb s.k) 8 else[])
def nd(p:Spn):List Int:=gm p.off++gm p.len
def iQ(ins:List Int)(ss:List Ste)(os:List Spn)(pk:Int):List Int:=
 [71,76]++gm ins.length++ins.flatMap gm++gm ss.length++ss.flatMap lZ++gm os.length++os.flatMap nd++gm pk
theorem lu(v):(gm v).length=2:=rfl
theorem jU(b):∀k,(iA b k).length=k
 |0=>rfl
 |k+1=>by rw[iA,yal,jU b k];rfl
theorem gI(xs:List Int):(xs.flatMap gm).length=2*xs.length:=by
 induction xs with
 |nil=>rfl
 |cons x r Z=>rw[List.flatMap_cons,yal,lu,Z,yaq];omega
theorem iO{C b:Type}(f:C->List b)(xs:List C)(z){k}(h:k<xs.length):(xs.take (k+1)).flatMap f=(xs.take k).flatMap f++f (xs.getD k z):=by
 rw[yau h,List.flatMap_append,List.flatMap_singleton];rw[yai,yam h];rfl
theorem G7(s):(lZ s).length=13+(if s.op=1 then 8 else 0):=by
 unfold lZ fx;simp only[yal,gI,yaq,List.length_nil];split
 ·rw[jU]
 rfl
theorem kB(af:List Ste):(af.flatMap lZ).length<=21*af.length:=by
 induction af with
 |nil=>simp
 |cons x r Z=>rw[List.flatMap_cons,yal,G7,yaq];split<;>omega
theorem kD(ba:List Spn):(ba.flatMap nd).length=4*ba.length:=by
 induction ba with
 |nil=>rfl
 |cons x r Z=>rw[List.flatMap_cons,yal,Z,yaq];unfold nd;rw[yal,lu,lu];omega
def YB(W:World)(B:Nat)(v:Value)(bs:List Int):Prop:=W.ownsRow B 5 1 v bs.length (bs.map (Value.int .u8))
theorem YB.keepC{W F S}(f:YB W I v bs)(k:Chg S W F)(aN:∀g,v.ownBlock=some g->¬S g):YB F I v bs:=eQ f k aN
theorem YB.keep{W F}(f:YB W I v bs)(k:Kept 0 0 W F):YB F I v bs:=eN f k
theorem YB.blk{W}(f:YB W I v bs){g}(h:v.ownBlock=some g):I<=g/\g<W.heap.size:=eF f h
theorem YB.nil(W I):YB W I (.slice none 0 0) []:=yaw _ _ _ _
theorem YB.lit(w:World)(I bs cs n)(ai:cs.toList=bs.map (Value.int .u8))(hn:bs.length=n)(hb:I<=w.heap.size)(aD:n<=1000000):YB (w.alloc (.cells cs 5)) I (ia w.heap.size n n) bs:=by
 unfold YB;have aw:cs.size=n:=by rw[<-Array.length_toList,ai,List.length_map,hn]
 have:=World.ownsRow_lit (base:=I) (e:=5) (size:=1) w cs n hb (by unfold maxLen;omega) (by rw[aw,Nat.mul_one]);rw[hn,<-ai];exact this
theorem Ma{w:World}{al:Addr}{ys:List Int}(h:∀j,j<ys.length->w.cell? (al.add j)=some (.int .u8 (ys.getD j 0))):∀j u,(ys.map (Value.int .u8))[j]? =some u->w.cell? (al.add j)=some u:=by
 intro j u G;by_cases hj:j<ys.length
 ·rw[h j hj];rw[List.getElem?_map,yam hj]at G;simp only[Option.map_some]at G;rw[<-G,yai,yam hj];rfl
 rw[List.getElem?_eq_none yag]at G;cases G
theorem fF(w){rest o a}(am:o.guard=none)(s x)
  (aR:o.op=.call {callee:=.builtin .append,args:=#[s,x],argTypes:=#[22,22]})
  (I) (v) (bs) (aw:a.eval s=v) (bi:YB w I v bs)
  (al) (m c) (ys) (aH:a.eval x=.slice (some al) m c) (ag:ys.length=m) (d:∀j,j<ys.length->w.cell? (al.add j)=some (.int .u8 (ys.getD j 0)))
  (aD:0<m) (f:bs.length+m<=100000000) (ae:I<=w.heap.size)
  (h:∀g cap n O,n=(bs++ys).length->YB O I (ia g n cap) (bs++ys)->Chg (λb=>v.ownBlock=some b) w O->(v.ownBlock=some g\/g=w.heap.size)->wpList prog bS Q rest (a.put o.dst (ia g n cap)) O):wpList prog bS Q (o::rest) a w:=by
 obtain⟨bY,hi,cg,b8,cc⟩:=info_parts LD;refine wpList_append_lies w am s x 22 aR I 5 bY (.int .u8 0) 1 1 underlying22 hi cg b8 cc rfl xab v bs.length _ aw bi al m c (ys.map (Value.int .u8)) aH (by rw[List.length_map,ag,Nat.mul_one]) (Ma d) ?_ aD (by unfold maxLen;omega) xaa ae _ rfl ?_
 ·intro u G;obtain⟨x,_,rfl⟩:=List.mem_map.1 G;rfl
 exact xfl
theorem nf(w){o a bA E}(am:o.guard=none)(s x)
  (aR:o.op=.call {callee:=.builtin .append,args:=#[s,x],argTypes:=#[22,22]})
  (I) (v) (bs) (aw:a.eval s=v) (bi:YB w I v bs)
  (al) (m c) (ys) (aH:a.eval x=.slice (some al) m c) (ag:ys.length=m) (d:∀j,j<ys.length->w.cell? (al.add j)=some (.int .u8 (ys.getD j 0)))
  (aD:0<m) (f:bs.length+m<=100000000) (ae:I<=w.heap.size)
  (h:∀g cap n O,n=(bs++ys).length->YB O I (ia g n cap) (bs++ys)->Chg (λb=>v.ownBlock=some b) w O->(v.ownBlock=some g\/g=w.heap.size)->bA (a.put o.dst (ia g n cap)) O):
  if Region.wanted o (yielded bS a.tmps)=true then Oper.wp prog o a w bA Q else E:=by
 obtain⟨bY,hi,cg,b8,cc⟩:=info_parts LD;refine step_append_lies w am s x 22 aR I 5 bY (.int .u8 0) 1 1 underlying22 hi cg b8 cc rfl xab v bs.length _ aw bi al m c (ys.map (Value.int .u8)) aH (by rw[List.length_map,ag,Nat.mul_one]) (Ma d) ?_ aD (by unfold maxLen;omega) xaa ae _ rfl ?_
 ·intro u G;obtain⟨x,_,rfl⟩:=List.mem_map.1 G;rfl
 exact xfl
end
section
variable{ins outs:List Int}{vs:List Vl}{af:List Ste}
structure SvOK(ins:List Int)(ss:List Ste)(os:List Spn)(pk:Int):Prop where
 li:ins.length<=20
 ls:ss.length<=2000
 lo:os.length<=51
 i:∀y∈ins,0<=y/\y<65536
 s:∀k,k<ss.length->(0<=(ss.getD k Ste.zero).op/\(ss.getD k Ste.zero).op<=14)/\∀y∈fx (ss.getD k Ste.zero),0<=y/\y<65536
 o:∀k,k<os.length->(0<=(os.getD k Spn.zero).off/\(os.getD k Spn.zero).off<65536)/\0<=(os.getD k Spn.zero).len/\(os.getD k Spn.zero).len<65536
 p:0<=pk/\pk<65536
def nk(s:Ste):Ste:=⟨s.op,s.len,s.n,s.dst,s.a,s.b,s.c,fb s.k⟩
theorem vx(vs i):∀m,jI (vs.map cv) i m=jI vs i m
 |0=>rfl
 |m+1=>by rw[jI,jI,vx vs i m,kX];rfl
theorem KH(vs outs ps i n a j):qx (vs.map cv) outs ps i n a j=qx vs outs ps i n a j:=by
 unfold qx ms;rw[vx,List.length_map,kX];rfl
theorem B1(vs outs):∀i,ft (vs.map cv) outs i=ft vs outs i
 |0=>rfl
 |i+1=>by
  have e:∀ps,j9 (vs.map cv) outs ps=j9 vs outs ps:=λps=>by
   funext i n a;unfold j9;simp only[KH]
  rw[ft,ft,B1 vs outs i]
  unfold qZ
  rw[kX,e];rfl
theorem xM(vs):∀i,iE (vs.map cv) i=iE vs i
 |0=>rfl
 |i+1=>by rw[iE,iE,xM vs i,kX];rfl
theorem vy(vs ps):∀i,fH (vs.map cv) ps i=fH vs ps i
 |0=>rfl
 |i+1=>by rw[fH,fH,vy vs ps i,kX];rfl
theorem KJ(vs ps i):nk (jO (vs.map cv) ps i)=nk (jO vs ps i):=by
 have e:∀o:Int,((vs.map cv).getD o.toNat i0).len=(vs.getD o.toNat i0).len:=λo=>by rw[kX];rfl
 unfold jO nk;rw[kX];simp only[e];generalize vs.getD i i0=v;show Ste.mk v.op v.len _ _ _ _ _ (fb (if v.op=1 then fb v.k else 0))=Ste.mk _ _ _ _ _ _ _ (fb (if v.op=1 then v.k else 0));by_cases h:v.op=1
 ·rw[iv h,iv h,AA];rfl
 rw[ip h,ip h];rfl
theorem vz(vs ps n):(gj (vs.map cv) ps n).map nk=(gj vs ps n).map nk:=by
 unfold gj;rw[List.map_map,List.map_map];congr 1;funext i;exact KJ vs ps i
theorem B2(vs ps):jJ (vs.map cv) ps=jJ vs ps:=by
 funext o;unfold jJ;rw[kX];rfl
def plD(own:Bool)(vs:List Vl)(outs:List Int):List Int:=if own=true then (List.range vs.length).map (iE vs)else ft vs outs vs.length
def pkD(own:Bool)(vs:List Vl)(outs:List Int):Int:=if own=true then iE vs vs.length else fH vs (plD own vs outs) vs.length
theorem A8(own vs outs):plD own (vs.map cv) outs=plD own vs outs:=by
 have e:=funext (xM vs);unfold plD;rw[List.length_map,B1,e]
theorem G8(own vs outs):pkD own (vs.map cv) outs=pkD own vs outs:=by
 unfold pkD;rw[List.length_map,xM,vy,A8]
theorem Lk.code{us}(h:Lk us vs)(own outs):(gj us (plD own us outs) us.length).map nk=(gj vs (plD own vs outs) vs.length).map nk/\outs.map (jJ us (plD own us outs))=outs.map (jJ vs (plD own vs outs))/\pkD own us outs=pkD own vs outs:=by
 have e:=h.len;unfold Lk at h;rw[<-vz us,<-A8 own us,<-B2 us,<-G8 own us,h,e,vz,A8,B2,G8];exact⟨rfl,rfl,rfl⟩
theorem Ha(h:okG ins vs outs=true)(own):∀j,j<vs.length->0<=(plD own vs outs).getD j 0/\(plD own vs outs).getD j 0+(vs.getD j i0).len<=50000:=λj hj=>by
 obtain⟨_,_,aL,_,ai⟩:=jZ h
 have ag:∀k,k<vs.length->_:=λk J=>(fV (aL k J)).1
 have aw:iE vs vs.length<=50000:=by rw[kQ vs _ yad,List.take_length];exact ai
 have B:=ig ag (show j+1<=vs.length from hj) yad
 have aj:=ig ag (Nat.zero_le j) xaa
 have bB:iE vs 0=0:=rfl
 unfold plD
 cases own
 ·rw[ip xac]
  have:=qz (outs:=outs) ag aw vs.length yad j hj
  omega
 ·rw[iv rfl,yai,List.getElem?_map,List.getElem?_range hj]
  have e:iE vs (j+1)=iE vs j+(vs.getD j i0).len:=rfl
  show 0<=iE vs j/\iE vs j+_<=50000
  omega
theorem zN{vs ps n}(h:∀j,j<n->0<=ps.getD j 0/\ps.getD j 0+(vs.getD j i0).len<=50000):∀k,k<=n->0<=fH vs ps k/\fH vs ps k<=50000
 |0,_=>by simp[fH]
 |k+1,J=>by
  have:=zN h k xaa
  have:=h k xaa
  rw[fH]
  split<;>omega
theorem Hb{ps k}(J:k<vs.length):(gj vs ps vs.length).getD k Ste.zero=jO vs ps k:=by
 unfold gj;rw[yai,List.getElem?_map,List.getElem?_range J];rfl
theorem Hc(h:okG ins vs outs=true)(own):(∀k,k<vs.length->(0<=(jO vs (plD own vs outs) k).op/\(jO vs (plD own vs outs) k).op<=14)/\∀y∈fx (jO vs (plD own vs outs) k),0<=y/\y<=60000)/\(0<=pkD own vs outs/\pkD own vs outs<=60000)/\(0<vs.length->1<=pkD own vs outs):=by
 have au:=Ha h own;obtain⟨⟨cj,cw,cK⟩,hi,aL,aR,ai⟩:=jZ h;have bI:∀j,j<vs.length->_:=λj hj=>fV (aL j hj);refine⟨λk J=>?_,?_⟩
 ·generalize plD own vs outs=ps at au⊢;have a6:=bI k J;have b:=rT (aL k J);obtain⟨co,_,f1,f2,f3⟩:=CR (aL k J) xaa cj (λj hj=>sQ (aL j xaa));have cy:=au k J;refine⟨⟨co.1,Int.le_trans co.2 xab⟩,λy bK=>?_⟩;unfold jO fx at bK;generalize ak:vs.getD k i0=v at bK a6 co b f1 f2 f3 cy
  have am:∀o∈fp v,(0<=ps.getD o.toNat 0/\ps.getD o.toNat 0<=60000)/\0<=(vs.getD o.toNat i0).len/\(vs.getD o.toNat i0).len<=60000:=λo q=>by
   have B:=b o q
   have N:=au o.toNat xaa
   have h3:=bI o.toNat xaa
   omega
  simp only[List.mem_cons,List.not_mem_nil,or_false]at bK;rcases bK with rfl|rfl|rfl|rfl|rfl|rfl
  ·omega
  ·split
   ·rename_i c;exact(am _ (rU c)).2
   omega
  ·omega
  ·split
   ·rename_i c;exact(am _ (rU c)).1
   omega
  ·split
   ·rename_i c;exact(am _ (wk c)).1
   omega
  split
  ·rename_i c;exact(am _ (wm c)).1
  omega
 unfold pkD;cases own
 ·rw[ip xac];have:=zN au vs.length yad;refine⟨by omega,λaj=>?_⟩;obtain⟨m,aD⟩:∃m,vs.length=m+1:=⟨vs.length-1,by omega⟩
  have B:=au m xaa;have N:=bI m xaa;rw[aD,fH];split<;>omega
 rw[iv rfl];have e:=kQ vs _ yad;rw[List.take_length]at e;have aj:=ig (vs:=vs) (λk J=>(bI k J).1) yae yad;have bB:iE vs 0=0:=rfl;refine⟨by omega,λhn=>?_⟩;have B:=ig (vs:=vs) (λk J=>(bI k J).1) (show 1<=vs.length from hn) yad;have N:=(bI 0 hn).1;have ad:iE vs 1=iE vs 0+(vs.getD 0 i0).len:=rfl;omega
theorem KK(h:okG ins vs outs=true)(own):SvOK ins (gj vs (plD own vs outs) vs.length) (outs.map (jJ vs (plD own vs outs))) (pkD own vs outs):=by
 obtain⟨c1,c2,_⟩:=Hc h own;have au:=Ha h own;obtain⟨⟨cj,cw,cK⟩,hi,aL,aR,ai⟩:=jZ h;generalize plD own vs outs=ps at au c1⊢;refine⟨cj,by rw[jT];exact cw,by rw[List.length_map];omega,λy bK=>?_,λk J=>?_,λk J=>?_,by omega⟩
 ·have:=of_decide_eq_true (List.all_eq_true.1 hi y bK);omega
 ·rw[jT]at J;rw[Hb J];exact⟨(c1 k J).1,λy bK=>i4 ((c1 k J).2 y bK)⟩
 rw[List.length_map]at J
 have e:(outs.map (jJ vs ps)).getD k Spn.zero=jJ vs ps (outs[k]):=by
  rw[yai,List.getElem?_map,yam J];rfl
 rw[e];have:=aR _ (List.getElem_mem J);have B:=au (outs[k]).toNat xaa;have N:=fV (aL (outs[k]).toNat xaa);unfold jJ;simp only;omega
def spS(k v:Nat)(s:Ste):Ste:=
 if k=0 then⟨s.op,s.len,s.n,s.dst+1,s.a,s.b,s.c,s.k⟩
 else if k=1 then⟨s.op,s.len,s.n,s.dst,s.a+((v%3:Nat):Int)-1,s.b,s.c,s.k⟩
 else if k=2 then⟨s.op,s.len,s.n,s.dst,s.a,s.b+((v%3:Nat):Int)-1,s.c,s.k⟩
 else if k=3 then⟨s.op,s.len,s.n,s.dst,s.a,s.b,s.c+((v%3:Nat):Int)-1,s.k⟩
 else if k=4 then⟨s.op,s.len,s.n+1,s.dst,s.a,s.b,s.c,s.k⟩
 else if k=5 then⟨s.op,s.len+((v%3:Nat):Int)-1,s.n,s.dst,s.a,s.b,s.c,s.k⟩
 else if k=6 then⟨((v%15:Nat):Int),s.len,s.n,s.dst,s.a,s.b,s.c,s.k⟩
 else if k=9 then⟨s.op,s.len,s.n,s.dst,s.a,s.b,s.c,4613937818241073152⟩
 else if k=11 then⟨s.op,s.len,s.n,s.a,s.a,s.b,s.c,s.k⟩
 else s
def spL(k v:Nat)(ss:List Ste):List Ste:=ss.set (v%ss.length) (spS k v (ss.getD (v%ss.length) Ste.zero))
def spO(k v:Nat)(os:List Spn):List Spn:=if k=8 then os++[⟨((v%9:Nat):Int),((v%4:Nat):Int)⟩]else os
def spP(k v:Nat)(pk:Int):Int:=if k=7 then pk-((v%2:Nat):Int)else if k=10 then pk+(v:Int)else pk
theorem Oc(k v s):nk (spS k v s)=spS k v (nk s)\/(k=9/\nk (spS k v s)=nk (spS k v (nk s))):=by
 unfold spS;by_cases h:k=9
 ·exact .inr ⟨h,by subst h;rfl⟩
 refine .inl ?_;(repeat' split)<;>first|rfl|contradiction
theorem B3(k v s):nk (spS k v s)=nk (spS k v (nk s)):=by
 rcases Oc k v s with e|e
 ·rw[<-e];unfold nk;rw[AA]
 exact e.2
theorem Od{us}(k v)(h:us.map nk=af.map nk):(spL k v us).map nk=(spL k v af).map nk:=by
 have ag:us.length=af.length:=by have:=congrArg List.length h;simpa using this
 have e:nk (us.getD (v%us.length) Ste.zero)=nk (af.getD (v%us.length) Ste.zero):=by
  have:=congrArg (λl=>l.getD (v%us.length) (nk Ste.zero)) h;simp only[yai,List.getElem?_map]at this⊢;cases B:us[v%us.length]?<;>cases N:af[v%us.length]?<;>simp[B,N]at this⊢<;>exact this
 unfold spL;rw[List.map_set,List.map_set,h,<-ag,B3,e,<-B3]
def qC(ss:List Ste):Bool:=ss.any λs=>decide (s.a<0)||decide (s.b<0)||decide (s.c<0)||decide (s.len<0)
theorem KL{ba ay}(k v)(h:SvOK ins af ba ay)(aR:ba.length<=50)(br:∀j,j<af.length->∀y∈fx (af.getD j Ste.zero),y<65000)(aA:1<=ay/\ay<=60000)(aL:v<256)(hn:qC (spL k v af)=false)(aj:0<af.length):SvOK ins (spL k v af) (spO k v ba) (spP k v ay):=by
 have hi:v%af.length<af.length:=Nat.mod_lt _ aj;have b:(spL k v af).length=af.length:=by unfold spL;rw[List.length_set]
 refine⟨h.li,jn b h.ls,?_,h.i,λj hj=>?_,λj hj=>?_,?_⟩
 ·unfold spO;split
  ·rw[yal];show ba.length+1<=51;omega
  omega
 ·rw[b]at hj
  have d:decide (((spL k v af).getD j Ste.zero).a<0)=false/\decide (((spL k v af).getD j Ste.zero).b<0)=false/\decide (((spL k v af).getD j Ste.zero).c<0)=false/\decide (((spL k v af).getD j Ste.zero).len<0)=false:=by
   have:=List.any_eq_false.1 hn ((spL k v af).getD j Ste.zero) (by
    rw[yai,yam (jn b hj)];exact List.getElem_mem _)
   simpa[and_assoc] using this
  by_cases c:j=v%af.length
  ·have e:(spL k v af).getD j Ste.zero=spS k v (af.getD j Ste.zero):=by
    unfold spL;rw[c,yai,List.getElem?_set_self hi];rfl
   rw[e]at d⊢;obtain⟨av,aT⟩:=h.s j hj;have G:=br j hj;generalize af.getD j Ste.zero=s at d av aT G⊢;simp only[fx,List.mem_cons,List.not_mem_nil,or_false,forall_eq_or_imp,forall_eq,decide_eq_false_iff_not]at d aT G⊢;unfold spS at d⊢;(repeat' split at d)<;>simp_all<;>omega
  have e:(spL k v af).getD j Ste.zero=af.getD j Ste.zero:=by
   unfold spL;rw[yai,List.getElem?_set_ne (λx=>c x.symm),<-yai]
  rw[e];exact h.s j hj
 ·unfold spO at hj⊢;split at hj
  ·rename_i c;rw[iv c];rw[yal]at hj;by_cases q:j<ba.length
   ·rw[yai,yat q,<-yai];exact h.o j q
   have:j=ba.length:=by simp at hj;omega
   rw[yai,yas xaa,this,Nat.sub_self];show(0<=((v%9:Nat):Int)/\((v%9:Nat):Int)<65536)/\0<=((v%4:Nat):Int)/\((v%4:Nat):Int)<65536;omega
  rename_i c;rw[ip c];exact h.o j hj
 unfold spP;split
 ·omega
 split<;>omega
end
section
attribute[local go_sem] eE eC eB
variable{S:Nat->Prop}{F:World}{k P n I cap i:Nat}{s:Ste}{a:Option Addr}{ins bs:List Int}{af:List Ste}{ba:List Spn}
theorem rN(w){bS rest o a Q}(am:o.guard=none)(s x)
  (aR:o.op=.call {callee:=.builtin .append,args:=#[s,x],argTypes:=#[26,26]})
  (I) (u) (vs) (aw:a.eval s=u) (bi:w.ownsRow I 56 2 u vs.length (gZ vs))
  (b) (v) (aH:a.eval x=ia b 1 1) (d:∀j u,v.cells[j]? =some u->w.cell? ((⟨b,0,none⟩:Addr).add j)=some u)
  (f:vs.length+1<=1000000) (ae:I<=w.heap.size)
  (h:∀g cap n O,n=(vs++[v]).length->O.ownsRow I 56 2 (ia g n cap) n (gZ (vs++[v]))->Chg (λb=>u.ownBlock=some b) w O->(u.ownBlock=some g\/g=w.heap.size)->wpList prog bS Q rest (a.put o.dst (ia g n cap)) O):wpList prog bS Q (o::rest) a w:=by
 obtain⟨bY,hi,cg,b8,cc⟩:=info_parts sj;refine wpList_append_lies w am s x _ aR I 56 _ _ 2 _ underlying26 hi cg b8 cc rfl xab u _ _ aw bi _ 1 1 _ aH rfl d (Kz v) xab (by unfold maxLen;omega) xaa ae _ rfl ?_;intro g cap O B N h3 _;have e:vs.length+1=(vs++[v]).length:=by rw[yal];rfl
 rw[e]at B⊢;refine h g _ _ _ rfl ?_ (fA N) h3;rw[lG,oR];exact B
theorem OCd.keepO{W bf bb bc}(f:OCd W I bf bb bc ins af ba)(k:Chg S W F)(aN:∀g,(bf.ownBlock=some g\/bb.ownBlock=some g\/bc.ownBlock=some g)->¬S g):OCd F I bf bb bc ins af ba:=
 ⟨eQ f.r1 k λg az=>aN g (.inl az),eQ f.r2 k λg az=>aN g (.inr (.inl az)),eQ f.r3 k λg az=>aN g (.inr (.inr az)),f.d12,f.d13,f.d23,f.kl⟩
structure Bx8(W:World)(S:Nat)(s:Ste):Prop where
 lt:S<W.heap.size
 c:∀q,q<8->W.cell? ⟨S,q,none⟩=s.cells[q]?
 fz:∀o,W.frozen? ⟨S,o,none⟩=false
theorem Bx8.set{W S q s' x}(h:Bx8 W S s)(am:q<8)(aL:s'.cells=s.cells.set q x):Bx8 (W.setCell ⟨S,q,none⟩ x) S s':=by
 have ag:s.cells.length=8:=rfl;refine⟨by simpa using h.lt,λr au=>?_,λo=>by simp[h.fz o]⟩;rw[aL];by_cases e:r=q
 ·subst e;rw[List.getElem?_set_self xaa];exact fc _ _ _ _ _ ((h.c r au).trans (yam xaa))
 rw[eG _ _ _ _ _ _ (.inr (Ne.symm e)),List.getElem?_set_ne (λc=>e c.symm)];exact h.c r au
theorem l7{W:World}{e s m g:Nat}{xs}(h:W.ownsRow I e s (ia g n cap) m xs)(o):W.frozen? ⟨g,o,none⟩=false:=by
 rcases h.2 with⟨ad,_⟩|⟨aI,cap',ao,ad,R,a6,_⟩<;>grind[World.frozen?]
structure Cy(w0:World)(S:Nat->Prop)(W:World)(P:Nat)(a:Option Addr)(n cap i:Nat)(bs:List Int)(B p:Nat)(u1 u2 u3:Value)(ins:List Int)(ss:List Ste)(os:List Spn)(pk:Int):Prop where
 rd:RdF W P a n cap i bs
 cd:OCd W B u1 u2 u3 ins ss os
 bx:KB W p u1 u2 u3 (.int .i64 pk)
 rs:KB W (p+1) (.slice none 0 0) (.slice none 0 0) (.slice none 0 0) (.int .i64 0)
 lo:P<B/\B<=p
 nr:∀b,(u1.ownBlock=some b\/u2.ownBlock=some b\/u3.ownBlock=some b)->b<p\/p+2<b
 ch:Chg S w0 W
 sp:S P/\w0.heap.size<=p
 nw:∀b,u3.ownBlock=some b->S b\/w0.heap.size<=b
section
variable{w0:World}{S:Nat->Prop}{W F:World}{P n cap i I p:Nat}{a:Option Addr}{bs:List Int}{u1 u2 u3:Value}{ins:List Int}{af:List Ste}{ba:List Spn}{ay:Int}
theorem OCd.kept{l h}(f:OCd W I u1 u2 u3 ins af ba)(k:Kept l h W F)(bN:h<=I):OCd F I u1 u2 u3 ins af ba:=
 ⟨fJ f.r1 k λ_ e=>.inr (yao bN (eF f.r1 e).1),fJ f.r2 k λ_ e=>.inr (yao bN (eF f.r2 e).1),fJ f.r3 k λ_ e=>.inr (yao bN (eF f.r3 e).1),f.d12,f.d13,f.d23,f.kl⟩
theorem Kept.chgS{l h}(k:Kept l h W F):Chg (λi=>l<=i/\i<h) W F:=⟨k.os,k.tape,k.output,k.size,λi hi hn=>k.block i hi hn⟩
theorem mA{bE R a6 U q l h}(t:KB W q bE R a6 U)(k:Kept l h W F)(aN:q<l\/h<=q):KB F q bE R a6 U:=t.keepC (S:=λb=>l<=b/\b<h) k.chgS xaa
theorem Cy.next(f:Cy w0 S W P a n cap i bs I p u1 u2 u3 ins af ba ay)(k:Kept P (P+1) W F){j}(r:RdF F P a n cap j bs):Cy w0 S F P a n cap j bs I p u1 u2 u3 ins af ba ay:=
 have:=f.lo
 ⟨r,f.cd.kept k xaa,mA f.bx k xaa,mA f.rs k xaa,f.lo,f.nr,f.ch.new k.chgS λi _ h=>by rw[show i=P by omega];exact f.sp.1,f.sp,f.nw⟩
theorem Cy.keep0(f:Cy w0 S W P a n cap i bs I p u1 u2 u3 ins af ba ay)(k:Kept 0 0 W F):Cy w0 S F P a n cap i bs I p u1 u2 u3 ins af ba ay:=
 ⟨f.rd.keep k yab,f.cd.keep k,f.bx.keep k,f.rs.keep k,f.lo,f.nr,f.ch.new (T:=λ_=>False) k.chg λ_ _ h=>h.elim,f.sp,f.nw⟩
theorem Cy.box(f:Cy w0 S W P a n cap i bs I p u1 u2 u3 ins af ba ay)(q x):Cy w0 S (W.setCell ⟨p+2,q,none⟩ x) P a n cap i bs I p u1 u2 u3 ins af ba ay:=by
 have ag:=f.lo;have k:=eU (lo:=p+2) (hi:=p+3) W ⟨p+2,q,none⟩ x (.inl ⟨yad,by show p+2<p+3;omega⟩);refine⟨f.rd.keep k (.inl xaa),f.cd.keepO (k.chg1 (S:=λb=>b=p+2) rfl) λg az c=>?_,mA f.bx k xaa,mA f.rs k xaa,f.lo,f.nr,f.ch.new k.chgS λi B N=>i4 f.sp.2,f.sp,f.nw⟩;have:=f.nr g az;omega
theorem Cy.peak(f:Cy w0 S W P a n cap i bs I p u1 u2 u3 ins af ba ay)(x):Cy w0 S (W.setCell ⟨p,3,none⟩ (ih x)) P a n cap i bs I p u1 u2 u3 ins af ba x:=by
 have ag:=f.lo;have k:=eU (lo:=p) (hi:=p+1) W ⟨p,3,none⟩ (ih x) yac;refine⟨f.rd.keep k (.inl xaa),f.cd.keepO (k.chg1 (S:=λb=>b=p) rfl) λg az c=>?_,f.bx.put3 _,mA f.rs k xaa,f.lo,f.nr,f.ch.new k.chgS λi B N=>i4 f.sp.2,f.sp,f.nw⟩;have:=f.nr g az;omega
end
theorem Bx8.keepC{W S T}(h:Bx8 W S s)(k:Chg T W F)(aN:¬T S):Bx8 F S s:=
 ⟨yak h.lt k.size,λq am=>by rw[World.cell?_of_block (k.block S h.lt aN)];exact h.c q am,λo=>by rw[World.frozen?_of_block (k.block S h.lt aN)];exact h.fz o⟩
theorem Cy.outs_{w0 W a7 p g9 d cap9 u1 u2 u3 ay x}(f:Cy w0 S W P a n cap i bs I p u1 u2 u3 ins af ba ay)(k:Kept 0 0 W F)(aX:Chg (λb=>u3.ownBlock=some b) F a7)(aD:d=(ba++[x]).length)(aR:a7.ownsRow I 56 2 (ia g9 d cap9) d (gZ (ba++[x])))(az:u3.ownBlock=some g9\/g9=F.heap.size)(b5:p+2<F.heap.size)(a5:∀b,u3.ownBlock=some b->S b):KB a7 p u1 u2 u3 (ih ay)/\Cy w0 S (a7.setCell ⟨p,2,none⟩ (ia g9 d cap9)) P a n cap i bs I p u1 u2 (ia g9 d cap9) ins af (ba++[x]) ay:=by
 have t:=f.keep0 k;have ag:=f.lo;have h3:∀b,u3.ownBlock=some b->I<=b/\b<F.heap.size/\(b<p\/p+2<b):=λb hb=>⟨(eF t.cd.r3 hb).1,(eF t.cd.r3 hb).2,f.nr b (.inr (.inr hb))⟩
 have bb:=t.bx.keepC aX (λc=>i4 (h3 _ c));have U:=eU (lo:=p) (hi:=p+1) a7 ⟨p,2,none⟩ (ia g9 d cap9) yac
 have aA:g9<p\/p+2<g9:=by
  rcases az with c|c
  ·exact(h3 _ c).2.2
  omega
 have Y:∀b,u1.ownBlock=some b->b≠g9/\b≠p/\b<F.heap.size:=λb hb=>⟨λe=>by subst e;rcases az with c|c;exact f.cd.d13 _ hb c;have:=(eF t.cd.r1 hb).2;omega,i4 (f.nr b (.inl hb)),(eF t.cd.r1 hb).2⟩
 have ae:∀b,u2.ownBlock=some b->b≠g9/\b≠p/\b<F.heap.size:=λb hb=>⟨λe=>by subst e;rcases az with c|c;exact f.cd.d23 _ hb c;have:=(eF t.cd.r2 hb).2;omega,by have:=f.nr b (.inr (.inl hb));omega,(eF t.cd.r2 hb).2⟩
 refine⟨bb,?_,⟨?_,?_,?_,f.cd.d12,λb hb c=>(Y b hb).1 (by simpa[Value.ownBlock] using c.symm),λb hb c=>(ae b hb).1 (by simpa[Value.ownBlock] using c.symm),f.cd.kl⟩,bb.put2 _,?_,ag,?_,(t.ch.new aX λi _ h=>a5 i h).new U.chgS λi B N=>i4 f.sp.2,f.sp,λb h=>?_⟩
 ·exact(mY t.rd aX λb hb=>i4 (h3 b hb)).keep U (.inl xaa)
 ·exact eH (eQ t.cd.r1 aX λg h c=>f.cd.d13 g h c) λh=>(Y _ h).2.1 rfl
 ·exact eH (eQ t.cd.r2 aX λg h c=>f.cd.d23 g h c) λh=>(ae _ h).2.1 rfl
 ·rw[<-aD];exact eH aR λh=>by simp[Value.ownBlock]at h;omega
 ·exact mA (t.rs.keepC aX (λc=>i4 (h3 _ c))) U xaa
 ·rintro b (h|h|h)
  ·exact f.nr b (.inl h)
  ·exact f.nr b (.inr (.inl h))
  simp[Value.ownBlock]at h;omega
 have e:b=g9:=by simpa[Value.ownBlock] using h.symm
 subst e;rcases az with c|c
 ·exact .inl (a5 _ c)
 exact .inr (i4 t.ch.size)
theorem ng{W u xs}(h:W.ownsRow I 43 8 u n (gL xs))(ag:xs.length=n)(J:k<n):∃g cap,u=ia g n cap/\I<=g/\g<W.heap.size/\AtT W g (k*8) (xs.getD k Ste.zero):=by
 obtain⟨a,cap,rfl⟩:=iH h;rcases h.2 with⟨ad,c⟩|⟨g,ce,ao,e,R,a6,U,bZ,ct,b2⟩
 ·omega
 cases e;refine⟨g,_,rfl,R,(eF h rfl).2,?_⟩
 have ai:∀j u,(xs.getD k Ste.zero).cells[j]? =some u->j<8->_:=λj u G hj=>by
  have:=h.cells (g:=g) rfl (k*8+j) u (by rw[tW _ _ _ xaa hj];exact G)
  rwa [il,Nat.zero_add]at this
 exact⟨ai 0 _ rfl xaa,ai 1 _ rfl xaa,ai 2 _ rfl xaa,ai 3 _ rfl xaa,ai 4 _ rfl xaa,ai 5 _ rfl xaa,ai 6 _ rfl xaa,ai 7 _ rfl xaa⟩
theorem KM(w:World)(s):Bx8 (w.alloc s.box) w.heap.size s:=by
 refine⟨by simp,λq am=>?_,λo=>by simp⟩;rw[yav,<-Array.getElem?_toList];rfl
theorem PA{v}(h:s.k<18446744073709551616):(spS k v s).k<18446744073709551616:=by
 unfold spS;(repeat' split)<;>first|exact h|(show(4613937818241073152:Nat)<_;omega)
theorem Oe{w Y ae aa c1 c2 c3 a1 K a3 ay}(b8:OCd w I (.slice a1 Y c1) (.slice K ae c2) (.slice a3 aa c3) ins af ba)(X:RdF w P a n cap i bs)(hP:P<I)(aZ:I<=w.heap.size)(aj:0<af.length)(hn:af.length<=2000)(aR:ba.length<=50)(aA:0<=ay/\ay<=60000)(br:∀s∈af,∀y∈fx s,0<=y/\y<=60000)(G:S P)(b0:∀b,(Value.slice K ae c2).ownBlock=some b->S b)(m:∀b,(Value.slice a3 aa c3).ownBlock=some b->S b):
  Calls prog 15 #[jh a1 Y c1 K ae c2 a3 aa c3 ay,ge P] w λe O=>∃U m3 ab,e=.returned (jh a1 Y c1 K ae c2 U m3 ab (spP (nv bs i%12) (nv bs (ni bs i)) ay))/\OCd O I (.slice a1 Y c1) (.slice K ae c2) (.slice U m3 ab) ins (spL (nv bs i%12) (nv bs (ni bs i)) af) (spO (nv bs i%12) (nv bs (ni bs i)) ba)/\RdF O P a n cap (ni bs (ni bs i)) bs/\Chg S w O/\∀b,(Value.slice U m3 ab).ownBlock=some b->S b\/w.heap.size<=b:=by
 have be:=f4 b8.r2;have bF:=eA 0 0 w (im a1 Y c1 K ae c2 a3 aa c3 ay);have ap:=eA 0 0 (w.alloc (im a1 Y c1 K ae c2 a3 aa c3 ay)) gK;have b5:(w.alloc (im a1 Y c1 K ae c2 a3 aa c3 ay)).heap.size=w.heap.size+1:=by simp
 have bM:KB (w.alloc (im a1 Y c1 K ae c2 a3 aa c3 ay)) w.heap.size (.slice a1 Y c1) (.slice K ae c2) (.slice a3 aa c3) (ih ay):=by
  refine⟨?_,?_,?_,?_,?_,?_,?_,?_,?_⟩<;>simp
 have J:=kz (w.alloc (im a1 Y c1 K ae c2 a3 aa c3 ay));rw[b5]at J;have bi:V (Cy w S _ P a n cap i bs I w.heap.size _ _ _ ins af ba ay):=⟨(X.keep bF yab).keep ap yab,(b8.keep bF).keep ap,bM.keep ap,J,⟨hP,aZ⟩,λb hb=>.inl (by rcases hb with h|h|h;exact(eF b8.r1 h).2;exact(eF b8.r2 h).2;exact(eF b8.r3 h).2),(bF.trans ap).chg,⟨G,yad⟩,λb h=>.inl (m b h)⟩
 have cu:V _:=b0;have Q:V _:=m;clear G b0 m;have l:V (((w.alloc (im a1 Y c1 K ae c2 a3 aa c3 ay)).alloc gK).heap.size=w.heap.size+2):=by show _=_;simp
 have aH:=fD X.ys i;have aL:=fD X.ys (ni bs i);have bz:(nv bs i:Int)%12=((nv bs i%12:Nat):Int):=xaa;have bh:nv bs i%12<12:=Nat.mod_lt _ xaa;have hj:nv bs (ni bs i)%af.length<af.length:=Nat.mod_lt _ aj;have dv:(nv bs (ni bs i):Int)%(ae:Int)=((nv bs (ni bs i)%af.length:Nat):Int):=by rw[be];exact Int.natCast_emod _ _
 unfold spL;have bu:V _:=λW i f=>iD W P a n cap i bs f;clear b8 X bF ap b5 bM J;obtain⟨v,am⟩:∃v,nv bs (ni bs i)=v:=⟨_,rfl⟩
 obtain⟨j,z⟩:∃j,v%af.length=j:=⟨_,rfl⟩
 obtain⟨k,C⟩:∃k,nv bs i%12=k:=⟨_,rfl⟩
 rw[am,z]at dv hj;rw[am,z,C];rw[C]at bz bh;have aB:V _:=be;have bc:¬ae=0:=xaa;have u:=(Int.tmod_eq_emod_of_nonneg xaa).trans dv;have av:(0:Int)<=j:=xaa;have ad:(j:Int)<ae:=xaa;clear be dv;go_enter func15,ntmps15;go_wp2_with fail;generalize (w.alloc _).alloc _=W0 at bi l⊢;refine yaj (bu.o _ _ bi.o.rd) ?_;rintro e aq ⟨rfl,R1,ap,aV⟩;have aw:V _:=bi.o.next ap R1;have ag:V _:=aV.trans l.o;clear R1 ap aV bi l;go_wp2_with fail;rw[bz];refine yaj (bu.o _ _ aw.o.rd) ?_;rintro e bU ⟨rfl,R2,aC,bg⟩;rw[am];have cC:V _:=aw.o.next aC R2;have bP:V _:=bg.trans ag.o;clear R2 aC bg aw ag bu;obtain⟨g,bd,aX,aT,aK,bf⟩:=ng cC.o.cd.r2 rfl (k:=j) hj;cases aX;generalize eu:af.getD j Ste.zero=a0 at bf;have az:V _:=eu;have bD:V (g<w.heap.size):=by rcases cC.o.nr g (.inr (.inl rfl)) with c|c;exact c;have:=bP.o;show g<_;omega
 have ao:V (Bx8 (bU.alloc a0.box) (w.heap.size+2) a0):=by
  have:=KM bU a0;rw[bP.o]at this;exact this
 have cc:V _:=cC.o.keep0 (eA 0 0 bU a0.box);obtain⟨a8,aJ,aP,bw,b3,cf,cz,ce⟩:=bf;obtain⟨_,aU,ax,aF,bv,_,_,_,_⟩:=cC.o.bx;clear eu aT aK;go_upto_if 30 with fail
 clear a8 aJ aP bw b3 cf cz ce aU ax aF bv;rw[bP.o];generalize bU.alloc _=aM at ao cc⊢
 have d:V ((0<=a0.len/\a0.len<=60000)/\(0<=a0.n/\a0.n<=60000)/\(0<=a0.dst/\a0.dst<=60000)/\(0<=a0.a/\a0.a<=60000)/\(0<=a0.b/\a0.b<=60000)/\(0<=a0.c/\a0.c<=60000)):=by
  have:=br a0 (by rw[<-az.o,yai,yam hj];exact List.getElem_mem _);show _/\_;simpa[fx] using this
 clear cC bP bc u br;rw[show((af.length:Int)==0)=false from yan xaa];go_cut [] from 29 to 114 (λcq=>∃U m3 ab,V (Cy w S cq P a n cap (ni bs (ni bs i)) bs I w.heap.size (.slice a1 Y c1) (ia g af.length c2) (.slice U m3 ab) ins af (spO k v ba) (spP k v ay))/\V (Bx8 cq (w.heap.size+2) (spS k v a0)))
 case first=>
  obtain⟨_,bC,bH,bJ,cb,bT,f1,f2,f3⟩:=cc.o.bx;have bE:aM.cell? ⟨w.heap.size+2,0,none⟩=some (ih a0.op):=ao.o.c 0 xaa;have R:aM.cell? ⟨w.heap.size+2,1,none⟩=some (ih a0.len):=ao.o.c 1 xaa;have a6:aM.cell? ⟨w.heap.size+2,2,none⟩=some (ih a0.n):=ao.o.c 2 xaa;have U:aM.cell? ⟨w.heap.size+2,3,none⟩=some (ih a0.dst):=ao.o.c 3 xaa;have bZ:aM.cell? ⟨w.heap.size+2,4,none⟩=some (ih a0.a):=ao.o.c 4 xaa;have ct:aM.cell? ⟨w.heap.size+2,5,none⟩=some (ih a0.b):=ao.o.c 5 xaa;have b2:aM.cell? ⟨w.heap.size+2,6,none⟩=some (ih a0.c):=ao.o.c 6 xaa;have ci:aM.cell? ⟨w.heap.size+2,7,none⟩=some (.float .f64 a0.k):=ao.o.c 7 xaa;have cl:=ao.o.fz;obtain⟨a5,cj,cw,cK,bm,hw⟩:=d.o;have ak:(v:Int)<256:=xaa;have cM:(0:Int)<=v:=xaa;rcases (by omega:k=0\/k=1\/k=2\/k=3\/k=4\/k=5\/k=6\/k=7\/k=8\/k=9\/k=10\/k=11) with rfl|rfl|rfl|rfl|rfl|rfl|rfl|rfl|rfl|rfl|rfl|rfl
  ·exact xbx
  ·exact xbx
  ·exact xbx
  ·exact xbx
  ·exact xbx
  ·exact xbx
  ·exact xbx
  ·exact xen
  ·have bj:=eA 0 0 aM (Spn.box ⟨(v:Int)%9,(v:Int)%4⟩);have aY:=ao.o.lt;have bA:(aM.alloc (Spn.box ⟨(v:Int)%9,(v:Int)%4⟩)).heap.size=aM.heap.size+1:=by simp
   have aN:=(cc.o.cd.keep bj).r3;have ah:=f4 aN;subst ah;have bX:I<=(aM.alloc (Spn.box ⟨(v:Int)%9,(v:Int)%4⟩)).heap.size:=i4 cc.o.lo
   go_wp2_with (at_builtin;refine rN _ rfl _ _ rfl I _ ba rfl aN aM.heap.size ⟨(v:Int)%9,(v:Int)%4⟩ rfl (BZ aM ⟨(v:Int)%9,(v:Int)%4⟩ 0) xaa bX ?_;intro g9 cap9 n9 a7 aD H bk bp;obtain⟨⟨_,a8,aJ,aP,bw,bI,bK,bO,bQ⟩,(bb:V _)⟩:=Cy.outs_ cc.o bj bk aD H bp xaa Q.o;have r:V _:=(ao.o.keepC (T:=λ_=>False) bj.chg (λc=>c)).keepC bk (λc=>by have:=cc.o.nr _ (.inr (.inr c));omega);clear aD H bk bp);go_meet;exact⟨_,_,_,bb.o,r.o.keepC ((eU (lo:=w.heap.size) (hi:=w.heap.size+1) a7 ⟨_,2,none⟩ _ yac).chg1 (S:=λb=>b=w.heap.size) rfl) xaa⟩
  ·exact xbx
  ·exact xen
  exact xbx
 case rest=>
  obtain⟨bq,m3,ab,bn,a9⟩:=hcut;obtain⟨aI,cap',aX,_,_,bf⟩:=ng bn.o.cd.r2 rfl (k:=j) hj;cases aX;have a2:(spS k v a0).k<18446744073709551616:=PA (by rw[<-az.o];exact bn.o.cd.kl _ (by rw[yai,yam hj];exact List.getElem_mem _));have ai:V _:=bn.o.cd.put8 hj (spS k v a0) a2;obtain⟨t,ht⟩:∃t,spS k v a0=t:=⟨_,rfl⟩
  rw[ht]at a9 ai;have bL:V (spS k v (af.getD j Ste.zero)=t):=by show _=_;rw[az.o,ht]
  clear ht;obtain⟨a8,aJ,aP,bw,b3,cf,cz,ce⟩:=bf;obtain⟨_,bC,bH,bJ,cb,_,_,_,_⟩:=bn.o.bx;obtain⟨_,bo,ar,aQ,aN,bR,bV,bW,dg⟩:=bn.o.rs;have bE:wc.cell? ⟨w.heap.size+2,0,none⟩=some (ih t.op):=a9.o.c 0 xaa;have R:wc.cell? ⟨w.heap.size+2,1,none⟩=some (ih t.len):=a9.o.c 1 xaa;have a6:wc.cell? ⟨w.heap.size+2,2,none⟩=some (ih t.n):=a9.o.c 2 xaa;have U:wc.cell? ⟨w.heap.size+2,3,none⟩=some (ih t.dst):=a9.o.c 3 xaa;have bZ:wc.cell? ⟨w.heap.size+2,4,none⟩=some (ih t.a):=a9.o.c 4 xaa;have ct:wc.cell? ⟨w.heap.size+2,5,none⟩=some (ih t.b):=a9.o.c 5 xaa;have b2:wc.cell? ⟨w.heap.size+2,6,none⟩=some (ih t.c):=a9.o.c 6 xaa;have ci:wc.cell? ⟨w.heap.size+2,7,none⟩=some (.float .f64 t.k):=a9.o.c 7 xaa;have cD:=l7 bn.o.cd.r2;have bB:g≠w.heap.size:=i4 bD.o
  have bx:g≠w.heap.size+1:=i4 bD.o
  have bN:V _:=bn;have bl:(0:Int)<=j:=xaa;have bG:(j:Int)<af.length:=xaa;clear bn a9 d az a2;have aT:=(eF bN.o.cd.r2 (k:=g) rfl).1;have aO:=bN.o.lo
  have aS:Chg (λb=>b=g) wc (N7 wc g (j*8) t):=by
   have e:∀(W:World) (q:Nat) (x:Value),Chg (λb=>b=g) W (W.setCell ⟨g,q,none⟩ x):=λW q x=>fh W g q x rfl;exact(((((((e _ _ _).trans (e _ _ _)).trans (e _ _ _)).trans (e _ _ _)).trans (e _ _ _)).trans (e _ _ _)).trans (e _ _ _)).trans (e _ _ _)
  have aG:V _:=mY bN.o.rd aS (λb hb=>by omega);have r:V _:=bN.o.bx.keepC aS (λc=>bB c.symm);have aW:V _:=bN.o.rs.keepC aS (λc=>bx c.symm);have al:V _:=bN.o.nr;have Z:V _:=bN.o.nw;have au:V _:=bN.o.ch.new aS λb _ hb=>cu.o b (jL hb);clear aS bN;go_upto_region 31 with fail;clear a8 aJ aP bw b3 cf cz ce bC bH bJ cb bo ar aQ aN bR bV bW dg bE R a6 U bZ ct b2 ci cD;unfold N7 at ai aG r aW au;generalize (((((((wc.setCell _ _).setCell _ _).setCell _ _).setCell _ _).setCell _ _).setCell _ _).setCell _ _).setCell _ _=an at ai aG r aW au⊢;obtain⟨_,bC,bH,bJ,cb,_,_,_,_⟩:=r.o;obtain⟨_,bo,ar,aQ,aN,bR,bV,bW,dg⟩:=aW.o;go_wp2_with fail;obtain⟨a8,aJ,aP,bw⟩:=iN an (w.heap.size+1) _ _ _ _ bo ar aQ aN (.slice a1 Y c1) (ia g af.length c2) (.slice bq m3 ab) (ih (spP k v ay));have bS:=fR an (w.heap.size+1) (.slice a1 Y c1) (ia g af.length c2) (.slice bq m3 ab) (ih (spP k v ay));refine yaz (v:=jh a1 Y c1 (some ⟨g,0,none⟩) af.length c2 bq m3 ab (spP k v ay)) (by simp[results,results15,go_sem,a8,aJ,aP,bw]) rfl ⟨_,_,_,rfl,?_,aG.o.keep bS (.inl xaa),au.o.new bS.chgS λi B N=>by omega,Z.o⟩;rw[bL.o];exact ai.o.keepO (bS.chg1 (S:=λb=>b=w.heap.size+1) rfl) λb hb c=>i4 (al.o b hb)
end
section
theorem nvb{bs}(h:∀x∈bs,0<=x/\x<256)(i):nv bs i<256:=by
 unfold nv;by_cases c:i<bs.length
 ·have:=h _ (List.getElem_mem c);simp only[yai,yam c,Option.getD_some];first|omega|(split<;>omega)
 simp only[yai,List.getElem?_eq_none (Nat.le_of_not_lt c),Option.getD_none];first|omega|(split<;>omega)
theorem Mc{us vs}(h:us.map sv=vs.map sv):Lk us vs:=by
 have e:sv=cv:=funext λv=>by unfold sv cv;rw[tA]
 unfold Lk;rw[<-e];exact h
end
section
attribute[local go_sem] eE eC eB
variable{ak w aq O:World}{P n i I cap G g C ae bk aa ab j m c q:Nat}{v bf bc u1:Value}{S:Nat->Prop}{ps qs bs outs ins:List Int}{vs:List Vl}{a U a6:Option Addr}{af:List Ste}{ba:List Spn}{ay:Int}
def stA(vs:List Vl)(ps qs:List Int)(i q:Nat):Ste:=
 ⟨(vs.getD i i0).op,(vs.getD i i0).len,
  if 0<cnt (vs.getD i i0).op then (vs.getD (vs.getD i i0).a.toNat i0).len else 0,
  (if 3<q then qs else ps).getD i 0,
  if 0<cnt (vs.getD i i0).op then (if 0<q then qs else ps).getD (vs.getD i i0).a.toNat 0 else (vs.getD i i0).a,
  if 1<cnt (vs.getD i i0).op then (if 1<q then qs else ps).getD (vs.getD i i0).b.toNat 0 else (vs.getD i i0).b,
  if 2<cnt (vs.getD i i0).op then (if 2<q then qs else ps).getD (vs.getD i i0).c.toNat 0 else (vs.getD i i0).c,
  if (vs.getD i i0).op=1 then (vs.getD i i0).k else 0⟩
def l9(vs:List Vl)(ps qs:List Int)(k:Nat):List Ste:=(List.range vs.length).map λj=>jO vs (if j<k then qs else ps) j
theorem qD(vs ps qs k):(l9 vs ps qs k).length=vs.length:=by simp[l9]
theorem Of{k}(h:j<vs.length):(l9 vs ps qs k).getD j Ste.zero=jO vs (if j<k then qs else ps) j:=by
 unfold l9;exact xgb
theorem PB(vs ps qs):l9 vs ps qs 0=gj vs ps vs.length:=by
 unfold l9 gj;exact List.map_congr_left λj _=>by rw[ip (Nat.not_lt_zero j)]
theorem PC(vs ps qs):l9 vs ps qs vs.length=gj vs qs vs.length:=by
 unfold l9 gj;exact List.map_congr_left λj h=>by rw[iv (List.mem_range.1 h)]
theorem Og(h:i<vs.length):(l9 vs ps qs i).set i (stA vs ps qs i 0)=l9 vs ps qs i:=by
 refine List.ext_getElem? λj=>?_;rw[List.getElem?_set];split
 ·rename_i c;subst c;rw[iv (by rw[qD];exact h)];unfold l9;rw[List.getElem?_map,List.getElem?_range h];show _=some (jO vs (if i<i then qs else ps) i);rw[ip (Nat.lt_irrefl i)];rfl
 rfl
theorem Oh(h:i<vs.length):(l9 vs ps qs i).set i (stA vs ps qs i 4)=l9 vs ps qs (i+1):=by
 refine List.ext_getElem? λj=>?_;rw[List.getElem?_set];unfold l9;split
 ·rename_i c;subst c;rw[iv (by rw[List.length_map,List.length_range];exact h),List.getElem?_map,List.getElem?_range h];show _=some (jO vs (if i<i+1 then qs else ps) i);rw[iv (Nat.lt_succ_self i)];rfl
 rename_i c;rw[List.getElem?_map,List.getElem?_map];by_cases hj:j<vs.length
 ·rw[List.getElem?_range hj];show some (jO vs (if j<i then qs else ps) j)=some (jO vs (if j<i+1 then qs else ps) j);congr 2;by_cases hi:j<i
  ·rw[iv hi,iv xaa]
  rw[ip hi,ip xaa]
 exact xjv
theorem Kept.newC{lo hi a b c}(h:Kept lo hi a b)(k:Chg S b c)(a5:∀i,S i->a.heap.size<=i):Kept lo hi a c:=
 ⟨k.os.trans h.os,k.tape.trans h.tape,k.output.trans h.output,yao h.size k.size,λi hi hn=>(k.block i (yak hi h.size) (λc=>i4 (a5 i c))).trans (h.block i hi hn)⟩
structure Mx(W w:World)(P:Nat)(a:Option Addr)(n cap i:Nat)(bs:List Int)(G B C:Nat)(v1 v2 v3 u1:Value)(b2:Option Addr)(n2 d2:Nat)(b3:Option Addr)(n3 d3:Nat)(ins:List Int)(vs:List Vl)(outs:List Int)(ss:List Ste)(os:List Spn)(pk:Int):Prop where
 rd:RdF W P a n cap i bs
 cd:OCd W B v1 v2 v3 ins ss os
 bx:KB W C v1 v2 v3 (.int .i64 pk)
 rs:KB W w.heap.size (.slice none 0 0) (.slice none 0 0) (.slice none 0 0) (.int .i64 0)
 gb:RB W G u1 (.slice b2 n2 d2) (.slice b3 n3 d3)
 gv:VS W 0 B b2 n2 vs
 go:IS W 0 B b3 n3 outs
 lo:P<w.heap.size/\w.heap.size<G/\G<B/\B<=C
 nr:∀b,(v1.ownBlock=some b\/v2.ownBlock=some b\/v3.ownBlock=some b)->b<C
 kp:Kept P (P+1) w W
section
variable{W F w:World}{P n cap i G I C ae bk aa ab:Nat}{a a6 U:Option Addr}{bs:List Int}{bf bb bc u1:Value}{ins:List Int}{vs:List Vl}{outs:List Int}{af:List Ste}{ba:List Spn}{ay:Int}
theorem Mx.part{aO d t S}(f:Mx W w P a n cap i bs G I C bf bb bc u1 a6 ae bk U aa ab ins vs outs af ba ay)(k:Chg S W F)(a5:∀b,S b->I<=b)(cB:OCd F I bf bb bc ins aO d)(bP:KB F C bf bb bc (ih t)):Mx F w P a n cap i bs G I C bf bb bc u1 a6 ae bk U aa ab ins vs outs aO d t:=
 have:=f.lo
 ⟨mY f.rd k λb hb=>i4 (a5 b hb),cB,bP,f.rs.keepC k λc=>i4 (a5 _ c),jd f.gb k λc=>i4 (a5 _ c),f.gv.keepC k λg _ az c=>i4 (a5 _ c),f.go.keepC k λg _ az c=>i4 (a5 _ c),f.lo,f.nr,f.kp.newC k λb hb=>i4 (a5 b hb)⟩
theorem Mx.keep(f:Mx W w P a n cap i bs G I C bf bb bc u1 a6 ae bk U aa ab ins vs outs af ba ay)(k:Kept 0 0 W F):Mx F w P a n cap i bs G I C bf bb bc u1 a6 ae bk U aa ab ins vs outs af ba ay:=
 f.part (S:=λ_=>False) k.chg (λ_ h=>h.elim) (f.cd.keep k) (f.bx.keep k)
theorem Mx.setT{g m c j q x s s'}(f:Mx W w P a n cap i bs G I C bf (ia g m c) bc u1 a6 ae bk U aa ab ins vs outs (af.set j s) ba ay)(hj:j<af.length)(am:q<8)(aL:s'.cells=s.cells.set q x)(J:s'.k=s.k):Mx (W.setCell ⟨g,j*8+q,none⟩ x) w P a n cap i bs G I C bf (ia g m c) bc u1 a6 ae bk U aa ab ins vs outs (af.set j s') ba ay:=by
 have N:=eF f.cd.r2 (k:=g) rfl;have h3:=f.nr g (.inr (.inl rfl));have e:=f.cd.setT (j:=j) (q:=q) (x:=x) (s':=s') (by rw[List.length_set];exact hj) am (by rw[jD hj];exact aL) (by rw[J];exact f.cd.kl s (List.mem_set hj s));rw[List.set_set]at e;exact f.part (fh W g (j*8+q) x rfl) (λb hb=>by subst hb;exact N.1) e (f.bx.keepC (fh W g (j*8+q) x rfl) (S:=λb=>b=g) xaa)
theorem Mx.setP{g m c j y s}(f:Mx W w P a n cap i bs G I C bf bb (ia g m c) u1 a6 ae bk U aa ab ins vs outs af ba ay)(hj:j<ba.length)(aw:ba.getD j Spn.zero=s):Mx (W.setCell ⟨g,j*2,none⟩ (ih y)) w P a n cap i bs G I C bf bb (ia g m c) u1 a6 ae bk U aa ab ins vs outs af (ba.set j ⟨y,s.len⟩) ay:=by
 have N:=eF f.cd.r3 (k:=g) rfl;have h3:=f.nr g (.inr (.inr rfl));exact f.part (fh W g (j*2) _ rfl) (λb hb=>by subst hb;exact N.1) (f.cd.setP (q:=0) (s':=⟨y,s.len⟩) hj xaa (jL aw)) (f.bx.keepC (fh W g (j*2) _ rfl) (S:=λb=>b=g) xaa)
theorem Mx.peak(f:Mx W w P a n cap i bs G I C bf bb bc u1 a6 ae bk U aa ab ins vs outs af ba ay)(y):Mx (W.setCell ⟨C,3,none⟩ (ih y)) w P a n cap i bs G I C bf bb bc u1 a6 ae bk U aa ab ins vs outs af ba y:=
 f.part (fh W C 3 _ rfl) (λb hb=>by subst hb;exact f.lo.2.2.2) (f.cd.keepO (fh W C 3 _ rfl) (S:=λb=>b=C) λg az c=>i4 (f.nr g az)) (f.bx.put3 _)
end
theorem Mx.dst{W s}(f:Mx W w P a n cap i bs G I C bf (ia g m c) bc u1 a6 ae bk U aa ab ins vs outs ((l9 vs ps qs q).set q s) ba ay)(am:q<vs.length)(hj:j<q):W.cell? ⟨g,j*8+3,none⟩=some (ih (qs.getD j 0)):=by
 have e:((l9 vs ps qs q).set q s).length=vs.length:=by rw[List.length_set,qD]
 have r:=f.cd.r2;rw[e]at r;obtain⟨aI,cap',a2,_,_,h⟩:=ng r e (k:=j) xaa;cases a2;have:=h.c3;rwa [yai,List.getElem?_set_ne xaa,<-yai,Of xaa,iv hj]at this
theorem Mx.at_{W s}(f:Mx W w P a n cap i bs G I C bf (ia g m c) bc u1 a6 ae bk U aa ab ins vs outs (af.set q s) ba ay)(am:q<af.length):AtT W g (q*8) s:=by
 obtain⟨aI,cap',a2,_,_,h⟩:=ng f.cd.r2 rfl (k:=q) (by rw[List.length_set];exact am);cases a2;rwa [jD am]at h
theorem Md{v}(aL:vs.getD i i0=v):(¬0<cnt v.op->stA vs ps qs i 1=stA vs ps qs i 0)/\∀m:Nat,0<cnt v.op->v.a=m->(stA vs ps qs i 1).cells=(stA vs ps qs i 0).cells.set 4 (ih (qs.getD m 0)):=by
 exact xfe
theorem Me{v}(aL:vs.getD i i0=v):(¬1<cnt v.op->stA vs ps qs i 2=stA vs ps qs i 1)/\∀m:Nat,1<cnt v.op->v.b=m->(stA vs ps qs i 2).cells=(stA vs ps qs i 1).cells.set 5 (ih (qs.getD m 0)):=by
 exact xfe
theorem Mf{v}(aL:vs.getD i i0=v):(¬2<cnt v.op->stA vs ps qs i 3=stA vs ps qs i 2)/\∀m:Nat,2<cnt v.op->v.c=m->(stA vs ps qs i 3).cells=(stA vs ps qs i 2).cells.set 6 (ih (qs.getD m 0)):=by
 exact xfe
theorem PD{x}(h:qs.getD i 0=x):(stA vs ps qs i 4).cells=(stA vs ps qs i 3).cells.set 3 (ih x):=by
 subst h;simp[stA,Ste.cells]
theorem Mx.atP{W bb s}(f:Mx W w P a n cap i bs G I C bf bb bc u1 a6 ae bk U aa ab ins vs outs af ba ay)(am:q<ba.length)(aw:ba.getD q Spn.zero=s):∃g cap,bc=ia g ba.length cap/\W.cell? ⟨g,q*2,none⟩=some (ih s.off):=by
 subst aw;obtain⟨a,cap,rfl⟩:=iH f.cd.r3;rcases f.cd.r3.2 with⟨ad,c⟩|⟨g,ce,ao,e,R,a6,U,bZ,ct,b2⟩
 ·omega
 cases e;refine⟨g,_,rfl,?_⟩;have:=f.cd.r3.cells (g:=g) rfl (q*2+0) _ (by rw[tX _ _ _ xaa xaa];rfl);rwa [il,Nat.zero_add]at this
def uc(vs:List Vl)(outs ps qs:List Int)(k:Nat):List Spn:=(List.range outs.length).map λj=>jJ vs (if j<k then qs else ps) (outs.getD j 0)
theorem zO(vs outs ps qs k):(uc vs outs ps qs k).length=outs.length:=by simp[uc]
theorem zP{rs}{f:Nat->List Int}(h:∀j,j<outs.length->f j=rs):((List.range outs.length).map λj=>jJ vs (f j) (outs.getD j 0))=outs.map (jJ vs rs):=by
 refine List.ext_getElem? λj=>?_;rw[List.getElem?_map,List.getElem?_map];by_cases hj:j<outs.length
 ·rw[List.getElem?_range hj,yam hj];show some (jJ vs (f j) (outs.getD j 0))=_;rw[h j hj,yai,yam hj];rfl
 rw[List.getElem?_eq_none (by rw[List.length_range];omega),List.getElem?_eq_none xaa];rfl
theorem Oi{k}(h:k<outs.length):(uc vs outs ps qs k).getD k Spn.zero=jJ vs ps (outs.getD k 0)/\(uc vs outs ps qs k).set k (jJ vs qs (outs.getD k 0))=uc vs outs ps qs (k+1):=by
 refine⟨?_,List.ext_getElem? λj=>?_⟩
 ·unfold uc;rw[yai,List.getElem?_map,List.getElem?_range h];show jJ vs (if k<k then qs else ps) _=_;rw[ip (Nat.lt_irrefl k)]
 rw[List.getElem?_set];unfold uc;split
 ·rename_i c;subst c;rw[iv (by rw[List.length_map,List.length_range];exact h),List.getElem?_map,List.getElem?_range h];show _=some (jJ vs (if k<k+1 then qs else ps) _);rw[iv (Nat.lt_succ_self k)]
 rename_i c;rw[List.getElem?_map,List.getElem?_map];by_cases hj:j<outs.length
 ·rw[List.getElem?_range hj];show some (jJ vs (if j<k then qs else ps) _)=some (jJ vs (if j<k+1 then qs else ps) _);congr 2;by_cases hi:j<k
  ·rw[iv hi,iv xaa]
  rw[ip hi,ip xaa]
 exact xjv
theorem Hd(vs outs):plD false vs outs=ft vs outs vs.length/\pkD false vs outs=fH vs (ft vs outs vs.length) vs.length:=by simp[plD,pkD]
theorem KN(vs outs):(∀j,j<vs.length->(plD true vs outs).getD j 0=iE vs j)/\pkD true vs outs=iE vs vs.length:=by
 refine⟨λj hj=>?_,by simp[pkD]⟩;unfold plD;rw[iv rfl,yai,List.getElem?_map,List.getElem?_range hj];rfl
theorem YB.at_{W}(f:YB W I v bs)(h:0<bs.length):∃g cap,v=ia g bs.length cap/\I<=g/\g<W.heap.size/\∀j,j<bs.length->W.cell? ⟨g,j,none⟩=some (.int .u8 (bs.getD j 0)):=by
 rcases f.2 with⟨_,c⟩|⟨g,cap,ao,e,R,a6,U,_,ct,b2⟩
 ·omega
 have az:g<W.heap.size:=by
  exact xdp
 refine⟨g,cap,e,R,az,λj hj=>?_⟩;rw[cell_of_row W g _ ao _ _ a6,<-Array.getElem?_toList];have:(ao.toList.take (bs.length*1))[j]? =(bs.map (Value.int .u8))[j]?:=by rw[b2]
 rw[List.getElem?_take_of_lt xaa]at this;rw[this,List.getElem?_map,yam hj,yai,yam hj];rfl
theorem lD(w:World)(cs)(ys:List Int)(ai:cs.toList=ys.map (Value.int .u8)):∀j,j<ys.length->(w.alloc (.cells cs 5)).cell? ((⟨w.heap.size,0,none⟩:Addr).add j)=some (.int .u8 (ys.getD j 0)):=by
 intro j hj;rw[il,Nat.zero_add,yav,<-Array.getElem?_toList,ai,List.getElem?_map,yam hj,yai,yam hj];rfl
theorem PE{ys:List Int}(h:∀j,j<ys.length->w.cell? ⟨g,j,none⟩=some (.int .u8 (ys.getD j 0))):∀j,j<ys.length->w.cell? ((⟨g,0,none⟩:Addr).add j)=some (.int .u8 (ys.getD j 0)):=λj hj=>by
 rw[il,Nat.zero_add];exact h j hj
def Oj(w:World)(B:Nat)(v:Value)(bs:List Int)(e:Ending)(w':World):Prop:=
 ∃v',e=.returned v'/\YB w' B v' bs/\Chg (λb=>v.ownBlock=some b) w w'/\∀g,v'.ownBlock=some g->v.ownBlock=some g\/w.heap.size<=g
theorem nh{W an}{u:Value}(bn:Chg S w W)(bR:∀g,u.ownBlock=some g->S g\/w.heap.size<=g)(k:Kept 0 0 W aq)(aG:Chg (λb=>u.ownBlock=some b) aq an)(aB:u.ownBlock=some g\/g=W.heap.size+1):
  Chg S w an/\∀h,(ia g n cap).ownBlock=some h->S h\/w.heap.size<=h:=by
 have B:=bn.size;have N:=k.size;refine⟨Chg.new (Chg.trans bn k.chg) aG (λi hi hb=>?_),λh bN=>?_⟩
 ·rcases bR i hb with c|c
  ·exact c
  omega
 simp[Value.ownBlock]at bN;subst bN;rcases aB with c|c
 ·exact bR g c
 right;omega
theorem cY.qen(h:Zp:=by
 try rw[List.append_assoc]at R1
 rw[<-bL.o]at R1;go_wp2_with fail;go_roundw;exact⟨k+1,by omega,by go_num,R1,R2.o.1,R2.o.2⟩;simp[intOf];omega):Zp:=h
open cY in
theorem pI(w I v bs xs a m c lo hi)(f:YB w I v bs)(x:IS w lo hi a m xs)(aN:∀g,lo<=g->g<hi->¬v.ownBlock=some g)(aH:∀y∈xs,0<=y/\y<65536)(hb:bs.length<=1000000)(aD:m<=1000000)(aZ:I<=w.heap.size):
  Calls prog 32 #[v,.slice a m c] w (Oj w I v (bs++xs.flatMap gm)):=by
 have bA:V _:=x;have HD:V _:=aN;have bv:V (∀k,k<m->_):=λk J=>aH _ (lJ (jn x.len J));have aO:V _:=f;have HL:V _:=x.len;clear x aN aH f;go_enter func32,ntmps32;go_wp2_with fail;go_loopw [0,9] (λb i W=>∃k:Nat,k<=m/\i=ih k/\V (YB W I b (bs++(xs.take k).flatMap gm))/\V (Chg (λg=>v.ownBlock=some g) w W)/\V (∀g,b.ownBlock=some g->v.ownBlock=some g\/w.heap.size<=g)) (λ_ i _=>m-(intOf i).toNat)
 case atStart=>exact⟨0,yae,rfl,by rw[List.take_zero,List.flatMap_nil,List.append_nil];exact aO,(Kept.refl 0 0 w).chg,λg h=>.inl h⟩
 case round=>
  obtain⟨k,J,rfl,X,bn,bR⟩:=hrel;by_cases aY:k<m
  ·have b1:=bA.o.keepC bn.o HD.o;rcases b1.at_ with z|⟨b4,an,rfl,aV,bg,bq,bB⟩
   ·omega
   have c1:=bB k aY;have bK:=bv.o k aY;have bL:V _:=iO gm xs 0 (jn HL.o aY);generalize xs.getD k 0=y at c1 bK bL
   have bb:V ((bs++(xs.take k).flatMap gm).length<=3000000):=by
    show _<=_;rw[yal,gI,List.length_take];omega
   have aG:V _:=bn.o.size;clear aV bg bq bB b1;go_wp2_with (first|(at_builtin;refine fF _ rfl _ _ rfl I _ _ rfl (YB.keep X.o (eA 0 0 wr _)) ⟨wr.heap.size,0,none⟩ 2 2 (gm y) rfl rfl (lD wr _ (gm y) rfl) xab ?c2 ?c3 ?_)|fail)
   case c2=>have:=bb.o;omega
   case c3=>have:=aG.o;simp;omega
   exact qem
  obtain rfl:k=m:=xaa;rw[yap (by rw[HL.o];exact yad)]at X;go_wp2_with fail;go_ret;exact⟨_,rfl,X.o,bn.o,bR.o⟩
theorem DL(b k):b/256 ^ k/256=b/256 ^ (k+1):=by rw[Nat.div_div_eq_div_mul,Nat.pow_succ]
theorem zQ(b k):((b/256 ^ k:Nat):Int)/256=((b/256 ^ (k+1):Nat):Int):=by rw[<-DL];omega
theorem bD.qbs(h:Zp:=by
 go_wp2_with (first|(at_builtin;refine fF _ rfl _ _ rfl I _ _ rfl (YB.keep X.o (eA 0 0 wr _)) ⟨wr.heap.size,0,none⟩ 1 1 [(y:Int)%256] rfl rfl (lD wr _ [(y:Int)%256] rfl) xab ?c2 ?c3 ?_)|fail)
 case c2=>have:=bb.o;omega
 case c3=>have:=aG.o;simp;omega
 exact qem):Zp:=h
theorem bD.qen(h:Zp:=by
 try rw[List.append_assoc]at R1
 exact xfv):Zp:=h
open bD in
theorem DM(w I v bs z)(b5:z<18446744073709551616)(f:YB w I v bs)(hb:bs.length<=10000000)(aZ:I<=w.heap.size):
  Calls prog 33 #[v,.float .f64 z] w (Oj w I v (bs++iA (fb z) 8)):=by
 have aO:V _:=f;have am:fb z<18446744073709551616:=by unfold fb;split<;>omega
 have cn:V _:=Eo z w;clear f;generalize fb z=q at am cn⊢;go_enter func33,ntmps33;go_wp2_with fail;refine yaj cn.o ?_;rintro e ak ⟨rfl,rfl⟩;go_wp2_with fail;go_loopw [0,5,8] (λb x i W=>∃k:Nat,k<=8/\i=ih k/\x=.int .u64 ((q/256 ^ k:Nat):Int)/\V (YB W I b (bs++iA q k))/\V (Chg (λg=>v.ownBlock=some g) ak W)/\V (∀g,b.ownBlock=some g->v.ownBlock=some g\/ak.heap.size<=g)) (λ_ _ i _=>8-(intOf i).toNat)
 case atStart=>exact⟨0,yae,rfl,by simp,by rw[iA,List.append_nil];exact aO,(Kept.refl 0 0 ak).chg,λg h=>.inl h⟩
 case round=>
  obtain⟨k,J,rfl,rfl,X,bn,bR⟩:=hrel;have bQ:V _:=zQ q k;by_cases aY:k<8
  ·have bb:V ((bs++iA q k).length<=30000000):=by
    show _<=_;rw[yal,jU];omega
   exact qbr
  obtain rfl:k=8:=xaa;clear bQ;generalize q/256 ^ 8=y;go_wp2_with fail;go_ret;exact⟨_,rfl,X.o,bn.o,bR.o⟩
theorem mw(w v)(aj:0<=v)(B:v<65536):
  Calls prog 39 #[ih v] w λe O=>e=.returned (ia w.heap.size 2 2)/\O=w.alloc (.cells #[.int .u8 (v%256),.int .u8 (v/256)] 5):=by
 go_enter func39,ntmps39;go_wp2;go_ret;exact⟨rfl,rfl⟩
theorem bE.qbs(h:Zp:=by
 go_wp2_with (first|(at_builtin;refine fF _ rfl _ _ rfl ak.heap.size _ _ rfl (YB.keep X.o (eA 0 0 wr _)) ⟨wr.heap.size,0,none⟩ 1 1 [(y:Int)%256] rfl rfl (lD wr _ [(y:Int)%256] rfl) xab ?c2 ?c3 ?_)|fail)
 case c2=>have:=bb.o;omega
 case c3=>have:=aG.o;simp;omega
 exact qem):Zp:=h
theorem bE.qen(h:Zp:=by
 exact xfv):Zp:=h
open bE in
theorem KO(w z)(b5:z<18446744073709551616):
  Calls prog 40 #[.float .f64 z] w λe O=>∃g cap,e=.returned (ia g 8 cap)/\(∀j,j<(iA (fb z) 8).length->O.cell? ((⟨g,0,none⟩:Addr).add j)=some (.int .u8 ((iA (fb z) 8).getD j 0)))/\Kept 0 0 w O:=by
 have am:fb z<18446744073709551616:=by unfold fb;split<;>omega
 have cn:V _:=FK z w b5;generalize fb z=q at am cn⊢;go_enter func40,ntmps40;go_wp2_with fail;refine yaj cn.o ?_;rintro e ak ⟨rfl,rfl⟩;go_wp2_with fail;go_loopw [3,4,5] (λx b i W=>∃k:Nat,k<=8/\i=ih k/\x=.int .u64 ((q/256 ^ k:Nat):Int)/\V (YB W ak.heap.size b (iA q k))/\V (Chg (λg=>False) ak W)/\V (∀g,b.ownBlock=some g->False\/ak.heap.size<=g)) (λ_ _ i _=>8-(intOf i).toNat)
 case atStart=>exact⟨0,yae,rfl,by simp,YB.nil _ _,(Kept.refl 0 0 ak).chg,λg h=>by simp[Value.ownBlock]at h⟩
 case round=>
  obtain⟨k,J,rfl,rfl,X,bn,bR⟩:=hrel;have bQ:V _:=zQ q k;by_cases aY:k<8
  ·have bb:V ((iA q k).length<=30000000):=by
    show _<=_;rw[jU];omega
   exact qbr
  obtain rfl:k=8:=xaa;clear bQ;generalize q/256 ^ 8=y;obtain⟨g,cap,rfl,B,N,h3⟩:=X.o.at_ (by rw[jU];decide);have R1:V _:=PE h3;have R2:V _:=Chg.kept (Kept.refl 0 0 ak) bn.o (λ_ h=>h.elim);rw[jU];clear B N h3;go_wp2_with fail;go_ret;exact⟨g,cap,rfl,λj hj=>R1.o j hj,R2.o⟩
theorem vA{d an len}(h:iX af n d an len=true):0<=an/\an<=d-len:=by
 unfold iX at h;simp only[Bool.and_eq_true]at h;exact of_decide_eq_true h.1
theorem xN(h:iJ ins af ba ay=true):SvOK ins af ba ay:=by
 unfold iJ at h;simp only[Bool.and_eq_true]at h;obtain⟨⟨ag,aw⟩,aR⟩:=h;unfold lr at ag;simp only[Bool.and_eq_true,decide_eq_true_eq]at ag;obtain⟨⟨⟨⟨B,N⟩,h3⟩,bp⟩,bU⟩:=ag;refine⟨B,N,by omega,?_,?_,?_,by omega⟩
 ·intro y bK;have:=List.all_eq_true.1 bp y bK;have:=of_decide_eq_true this;omega
 ·intro k J;have hb:=rA bU.2 aw k J;have bz:=List.all_eq_true.1 aw k (List.mem_range.2 J);unfold jG at bz;simp only[Bool.and_eq_true]at bz;obtain⟨br,_,ht⟩:=bz;generalize af.getD k Ste.zero=s at hb br ht;have co:=su br;refine⟨⟨co.1,by omega⟩,?_⟩
  have f:∀p∈fg s,0<=p.off/\p.off<=50000:=λp aA=>by
   have al:=List.all_eq_true.1 ht p aA
   unfold jF at al
   simp only[Bool.and_eq_true]at al
   have Q:=vA al.1
   have aG:=tZ br aA
   omega
  have hn:0<=s.n/\s.n<=1000:=by
   by_cases ai:0<cnt s.op
   ·have:=xK br ai;omega
   have bv:cnt s.op=0:=xaa;unfold fN at br;simp only[Bool.and_eq_true]at br;have:=br.1.2;simp[bv]at this;omega
  have bl:0<cnt s.op->0<=s.a/\s.a<=50000:=λai=>f ⟨s.a,s.n⟩ (by unfold fg;obtain⟨q,am⟩:∃q,cnt s.op=q+1:=⟨cnt s.op-1,by omega⟩;rw[am];simp);have aZ:1<cnt s.op->0<=s.b/\s.b<=50000:=λai=>f ⟨s.b,s.len⟩ (by unfold fg;obtain⟨q,am⟩:∃q,cnt s.op=q+2:=⟨cnt s.op-2,by omega⟩;rw[am];simp);have bn:2<cnt s.op->0<=s.c/\s.c<=50000:=λai=>f ⟨s.c,s.len⟩ (by unfold fg;obtain⟨q,am⟩:∃q,cnt s.op=q+3:=⟨cnt s.op-3,by omega⟩;rw[am];simp)
  have K:fL (gM s)=true:=by
   unfold fN at br;simp only[Bool.and_eq_true]at br;exact br.1.1.2
  unfold fL gM at K;simp at K;obtain⟨⟨b,sb⟩,r⟩:=K
  have cO:0<=s.a/\s.a<=50000:=by
   by_cases ai:0<cnt s.op
   ·exact bl ai
   by_cases aj:s.op=0
   ·unfold fN at br;rw[iv aj]at br;simp only[Bool.and_eq_true]at br;have:=of_decide_eq_true br.2.1;omega
   rcases b with (c|c)|c
   ·omega
   ·exact absurd c aj
   omega
  have l:0<=s.b/\s.b<=50000:=by
   by_cases ai:1<cnt s.op
   ·exact aZ ai
   rcases sb with c|c<;>omega
  have t:0<=s.c/\s.c<=50000:=by
   by_cases ai:2<cnt s.op
   ·exact bn ai
   by_cases aA:gH s.op=true
   ·have an:=of_decide_eq_true aA;have d:=tY br xaa;rcases an with e|e
    ·rw[e]at d;simp[eV,cnt,lenB,gn]at d;omega
    rw[e]at d;simp[eV,cnt,gn]at d;omega
   rcases r with (c|c)|c
   ·omega
   ·exact absurd c aA
   omega
  intro y bK;simp[fx]at bK;rcases bK with rfl|rfl|rfl|rfl|rfl|rfl<;>omega
 intro k J
 have aD:ba.getD k Spn.zero∈ba:=by
  rw[yai,yam J];exact List.getElem_mem _
 have:=List.all_eq_true.1 aR _ aD;unfold pe at this;simp only[Bool.and_eq_true]at this;have al:=of_decide_eq_true this.1;have Q:=vA this.2;omega
structure SvI(w2 W:World)(v:Value)(bs:List Int):Prop where
 r:YB W w2.heap.size v bs
 k:Kept 0 0 w2 W
theorem SvI.size{W}(f:SvI ak W v bs):ak.heap.size<=W.heap.size:=f.k.size
theorem SvI.next{W v' x}(f:SvI ak W v bs)(ap:Kept 0 0 W aq)(h:YB O ak.heap.size v' x)(ai:Chg (λb=>v.ownBlock=some b) aq O):SvI ak O v' x:=
 ⟨h,Chg.kept (f.k.trans ap) ai (λ_ hi=>(f.r.blk hi).1)⟩
theorem SvI.keep{W}(f:SvI ak W v bs)(ap:Kept 0 0 W aq):SvI ak aq v bs:=⟨f.r.keep ap,f.k.trans ap⟩
theorem oT(w I v)(bs xs:List Int)(cs n)(f:YB w I v bs)(ai:cs.toList=xs.map (Value.int .i64))(hn:xs.length=n)(ag:n<=10)(aH:∀y∈xs,0<=y/\y<65536)(hb:bs.length<=1000000)(aZ:I<=w.heap.size):
  Calls prog 32 #[v,ia w.heap.size n n] (w.alloc (.cells cs 3)) (Oj (w.alloc (.cells cs 3)) I v (bs++xs.flatMap gm)):=by
 have bj:=eA 0 0 w (.cells cs 3);refine pI _ I v bs xs _ n n w.heap.size (w.heap.size+1) (f.keep bj) ⟨hn,.inr ⟨w.heap.size,0,rfl,yad,yaf,by simp,λk J=>?_⟩⟩ (λg B N h3=>?_) aH hb xaa (yao aZ bj.size)
 ·rw[Nat.zero_add,yav,<-Array.getElem?_toList,ai,List.getElem?_map,yam xaa,yai,yam xaa];rfl
 have:=(f.blk h3).2;omega
theorem AtT.keepC{v}(a:AtT w g 0 v)(az:g<w.heap.size)(k:Chg S w O)(aN:¬S g):AtT O g 0 v:=by
 have e:∀o,_:=λo=>k.cell (p:=⟨g,o,none⟩) az aN;obtain⟨c0,c1,c2,c3,c4,c5,J,ag⟩:=a;exact⟨jn e c0,jn e c1,jn e c2,jn e c3,jn e c4,jn e c5,jn e J,jn e ag⟩
theorem ud(w:World)(v):AtT (w.alloc v.box) w.heap.size 0 v:=by
 constructor;all_goals first|(go_simp;done)|(simp;done)
structure YK(w:World)(g n:Nat)(xs:List Int):Prop where
 len:xs.length=n
 lt:g<w.heap.size
 at_:∀k,k<n->w.cell? ⟨g,k,none⟩=some (.int .u8 (xs.getD k 0))
 free:∀o,w.frozen? ⟨g,o,none⟩=false
structure YZ(w:World)(g:Nat)(a:Option Addr)(n:Nat)(xs:List Int):Prop where
 len:xs.length=n
 at_:n=0\/(a=some ⟨g,0,none⟩/\YK w g n xs)
theorem YZ.ys{xs}(f:YZ w g a n xs)(h:∀x∈xs,0<=x/\x<256):YS w a n xs:=⟨f.1,h,f.2.imp id λ⟨e,q⟩=>⟨g,0,e,q.lt,λk J=>by rw[Nat.zero_add];exact q.at_ k J⟩⟩
theorem YB.yz{W}(f:YB W I v bs):∃g a cap,v=.slice a bs.length cap/\YZ W g a bs.length bs/\(0<bs.length->I<=g):=by
 rcases f.2 with⟨rfl,c⟩|⟨g,cap,ao,rfl,R,a6,U,_,ct,b2⟩
 ·exact⟨0,none,0,by rw[c],⟨rfl,.inl c⟩,λh=>by omega⟩
 refine⟨g,_,cap,rfl,⟨rfl,.inr ⟨rfl,rfl,?_,λk J=>?_,λo=>?_⟩⟩,λ_=>R⟩
 ·exact xdp
 ·rw[cell_of_row W g _ ao _ _ a6,<-Array.getElem?_toList];have:(ao.toList.take (bs.length*1))[k]? =(bs.map (Value.int .u8))[k]?:=by rw[b2]
  rw[List.getElem?_take_of_lt xaa]at this;rw[this,List.getElem?_map,yam J,yai,yam J];rfl
 exact frozen_of_row W g o ao _ a6
theorem Ok{W R m1 ad m3 ah base o Q f r u H R' a2 y d c0 c1 c2 c5 J ag Y aX h aR aC an az aw N ai am}(Z:V (MS w W R m1 ad U m3 ah vs ⟨o,Q,(j:Int),f,r,u⟩ base H R' (some ⟨a2,0,none⟩) cap))(bj:vs.length<=900000)(hj:j<vs.length)(ax:(vs.getD j i0).len=y):PfC 30 W (MpR w R m1 ad U m3 ah vs ⟨o,Q,(j:Int),f,r,u⟩ base H (eK 10 y d 0 0)) c0 c1 c2 (ih d) (ge w.heap.size) c5 J ag Y aX h (ge (w.heap.size+1+1)) aR aC an az aw N ai am aX h:=by
 unfold PfC;intros;rename_i HK;have bi:V (∀aq,Kept 0 0 W aq->_):=λaq k=>MS.call Z.o k (eK 10 y d 0 0) xaa;have a0:=Z.o.g.c0;have av:=Z.o.g.c1;have aT:=Z.o.g.c2;have bb:=Z.o.v.c2;exact xbz
theorem PF(X:RdF w P a n cap i bs)(ai:n<=cap)(bQ:cap<=9223372036854775807):
  Calls prog 14 #[ge P] w λe O=>∃b c,e=.returned (.slice b (n-i) c)/\YS O b (n-i) (bs.drop i)/\n-i<=c/\c<=9223372036854775807/\Kept 0 0 w O:=by
 have aj:=X.c0;have B:=X.c1;have hi:=X.hi
 have bv:V (∀an g,a=some ⟨g,an,none⟩->YS w (some ⟨g,an+i,none⟩) (n-i) (bs.drop i)):=λan g e=>⟨by rw[List.length_drop,X.ys.len],λx aH=>X.ys.lt x (List.mem_of_mem_drop aH),by
  rcases X.ys.at_ with z|⟨aI,cR,a2,h3,bp⟩
  ·exact .inl xaa
  ·rw[e]at a2
   cases a2
   refine .inr ⟨g,an+i,rfl,h3,λk J=>?_⟩
   rw[Nat.add_assoc,bp (i+k) xaa,yai,yai,List.getElem?_drop]⟩
 have d:V (∀b:Option Addr,n-i=0->YS w b (n-i) (bs.drop i)):=λb e=>⟨by rw[List.length_drop,X.ys.len],λx aH=>X.ys.lt x (List.mem_of_mem_drop aH),.inl e⟩
 have aO:V (n=0\/∃g an,a=some ⟨g,an,none⟩):=X.ys.at_.imp id λ⟨g,an,e,_⟩=>⟨g,an,e⟩
 clear X;go_enter func14,ntmps14;go_wp2_with fail;rcases a with _|al
 ·go_region
  all_goals
   go_wp2
   go_ret
   exact⟨_,_,rfl,(d.o _ (by rcases aO.o with z|⟨_,_,z⟩<;>first|omega|cases z)).keep (eD _),by omega,by omega,eD _⟩
 by_cases R:cap=i
 ·go_region
  all_goals
   go_wp2
   go_ret
   exact⟨_,_,rfl,(d.o _ xaa).keep (eD _),by omega,by omega,eD _⟩
 have bM:V (YS w (some (al.add i)) (n-i) (bs.drop i)):=by
  by_cases z:n-i=0
  ·exact d.o _ z
  rcases aO.o with z|⟨g,an,z⟩
  ·omega
  cases z;rw[il];exact bv.o _ _ rfl
 go_region
 all_goals
  go_wp2
  go_ret
  exact⟨_,_,rfl,bM.o.keep (eD _),by omega,by omega,eD _⟩
theorem A9(w a b n c d xs)(aN:YS w a n xs)(fb:YS w b n xs)(hn:n<=1000000):
  Calls prog 8 #[.slice a n c,.slice b n d] w λe O=>e=.returned (.bool true)/\Kept 0 0 w O:=by
 have bM:V _:=aN;have ao:V _:=fb;clear aN fb;go_enter func8,ntmps8;go_wp2_with fail;go_loopw [5] (λi W=>∃k:Nat,k<=n/\i=ih k/\V (Kept 0 0 w W)) (λi _=>n-(intOf i).toNat)
 case atStart=>exact⟨0,yae,rfl,Kept.refl _ _ _⟩
 case round=>
  obtain⟨k,J,rfl,aS⟩:=hrel;by_cases aY:k<n
  ·obtain⟨g,an,rfl,az,aB⟩:∃g an,a=some ⟨g,an,none⟩/\g<w.heap.size/\∀k,k<n->w.cell? ⟨g,an+k,none⟩=some (.int .u8 (xs.getD k 0)):=bM.o.at_.resolve_left xaa;obtain⟨aI,cR,rfl,t,hb⟩:∃g an,b=some ⟨g,an,none⟩/\g<w.heap.size/\∀k,k<n->w.cell? ⟨g,an+k,none⟩=some (.int .u8 (xs.getD k 0)):=ao.o.at_.resolve_left xaa;have bS:=(aS.o.cell (p:=⟨g,an+k,none⟩) az xaa).trans (aB k aY);have bw:=(aS.o.cell (p:=⟨aI,cR+k,none⟩) t xaa).trans (hb k aY);generalize xs.getD k 0=x at bS bw;clear aB hb;go_wp2_with fail;go_region
   all_goals
    go_wp2
    go_roundw;exact⟨k+1,by omega,by go_num,Kept.drew aS.o⟩;simp[intOf];omega
  obtain rfl:k=n:=xaa;go_wp2;go_ret;exact⟨rfl,aS.o⟩
