import Derived.Test.YtiacbhjphaldlaaGreatDoorP32
namespace Go.Proofs.Z
variable{g}
variable{Zp:Prop}
open Tryz Go.RowKit Flt
set_option maxRecDepth 1000000
set_option maxHeartbeats 0
section
attribute[local go_sem] dI dG dF gh gj gn mkF
variable{a w b aq c A bx:World}{S:Nat->Prop}{B P base bv n cap calls p k aA b2:Nat}{ρ ρ' bX:Nat->Nat}{t:Tok}{v aP u1 u3 Y bm am:Value}{st bq:LSt}{ins outs:List Int}{aO:List TkV}{vs:List Vl}{mp R:Option Nat}{G ys js:List Nat}{loc:Loc}{names:List Bdg}{r:Rs (LSt×Nat)}
def Tsm(E:Tqe)(W W':World):Prop:=E.T<W.heap.size->W'.heap[E.T]? =W.heap[E.T]?
theorem Tsm.kept{E W}(k:Kept 0 0 W A):Tsm E W A:=λh=>k.block E.T h xaa
theorem Tsm.trans{E}(h:Tsm E a b)(ai:a.heap.size<=b.heap.size)(k:Tsm E b c):Tsm E a c:=λq=>(k (yaj q ai)).trans (h q)
theorem Tsm.chg{E W}(c:Chg S W A)(h:¬S E.T):Tsm E W A:=λq=>c.block E.T q h
def TqR(E:Tqe)(ρ:Nat->Nat)(W:World)(L:List TkV)(xs:List Nat)(r:Rs (LSt×Nat))(e:Ending)(W':World):Prop:=
 (∃st' a ρ',r=.ok (st',a)/\e=.returned (.int .i64 (a:Int))/\Tq E ρ' W' st' L xs/\Sco ρ W ρ' W'/\Tsm E W W')\/(∃c p,r=.error (c,p)/\e=Thr c (p:Nat)/\Chg (λb=>ρ b≠0) W W')
theorem Chg.chain(h:Chg S a b)(k:Chg S b c):Chg S a c:=⟨k.os.trans h.os,k.tape.trans h.tape,k.output.trans h.output,yan h.size k.size,λi hi V=>(k.block i (yaj hi h.size) V).trans (h.block i hi V)⟩
theorem Sco.bad{W}(a:Sco ρ W ρ' A)(c:Chg (λb=>ρ' b≠0) A bx):Chg (λb=>ρ b≠0) W bx:=⟨c.os.trans a.chg.os,c.tape.trans a.chg.tape,c.output.trans a.chg.output,yan a.chg.size c.size,λk H V=>by
 rw[c.block k (yaj H a.chg.size) (by rw[a.ext k H];exact V)]
 exact a.chg.block k H V⟩
theorem TqR.after{E W e}(a:Sco ρ W ρ' A)(t:Tsm E W A)(h:TqR E ρ' A aO G r e bx):TqR E ρ W aO G r e bx:=by
 obtain⟨aG,x,aC,z,J,al,bw,bL⟩|⟨c,p,z,J,al⟩:=h
 ·exact .inl ⟨_,x,_,z,J,al,a.trans bw,t.trans a.chg.size bL⟩
 exact .inr ⟨c,p,z,J,a.bad al⟩
theorem TqR.afterK{E W e}(k:Kept 0 0 W A)(h:TqR E ρ A aO G r e bx):TqR E ρ W aO G r e bx:=TqR.after (Sco.kept k) (Tsm.kept k) h
theorem P1(h:BS w P u1 u3 vs (dK vs) base R Y)(V:0<vs.length):Calls prog 151 #[ge P] w λe D=>e=.returned (.bool (!jf vs))/\D=w:=by
 obtain⟨g,cap,rfl,_,_⟩:=h.read V;obtain c|c:=Nat.lt_or_ge 2000 vs.length
 ·rw[show jf _=true from decide_eq_true (.inl c)];exact yX w P R g h c
 by_cases d:50000<dK vs
 ·rw[show jf _=true from decide_eq_true (.inr d)];exact wX w P R g h c d
 rw[show jf _=false from yaw xaa];exact DA w P R g h c xaa
theorem ux{T}(az:w.cell? ⟨T,0,none⟩=some (ge P))(h:BS w P u1 u3 vs (dK vs) base R Y)(V:0<vs.length)(p):
  Calls prog 150 #[ge T,h0 p] w λe D=>(jf vs=false/\e=.returned (.tuple #[])/\D=w)\/(jf vs=true/\e=Thr 5 p/\D=w):=by
 have bf:M _:=P1 h V;clear h V;cases I:jf vs with
 |false=>
  rw[I]at bf;clear I;go_enter func150,ntmps150;go_wp2_with (go_at_call 151;refine yai bf.o ?_;rintro e aa ⟨rfl,X⟩;obtain rfl:=X.symm);go_end0
  grind
 |true=>
  rw[I]at bf;clear I;go_enter func150,ntmps150;go_wp2_with (first|(go_at_call 151;refine yai bf.o ?_;rintro e aa ⟨rfl,X⟩;obtain rfl:=X.symm)|(go_at_call 52;refine yai j4 ?_;rintro e ao ⟨rfl,X⟩;obtain rfl:=X.symm));exact⟨rfl,.inr ⟨trivial,rfl,rfl⟩⟩
theorem sP{E}(h:Tq E ρ w st aO G)(g:Gd st)(v)(s:-1000000000<=v.len)(co:v.len<=1000000000)(p:Nat):
  Calls prog 167 #[ge E.T,h0 p,v.agg] w (TqR E ρ w aO G (eg st v p)):=by
 obtain⟨u1,u3,Y,bm,am,ax,C⟩:=h;have af:=dE 0 0 w (ir v.op v.len v.a v.b v.c v.k);have aY:=jH _ (λj aK=>ih (g.len j aK));have x:=ax.chg (af.chg (S:=λ_=>False)) (λ_ _ q=>q.elim) (λ_ _=>rfl);have i:=C.chg (af.chg (S:=λ_=>False)) (λ_ _ q=>q.elim) (λ_ _=>rfl) (λb I=>C.rN b (yan af.size I))
 have cd:M (∀m,Kept 0 0 _ m->Calls _ _ _ m λe D=>e=.returned _/\∃ρ' a5,TqB E ρ' D _ _ _ _ _ a5/\TqT E ρ' D _ _ aO _ _ _/\Sco _ w ρ' D/\Tsm E w D):=λm f=>by
  have o:=x.chg (f.chg (S:=λ_=>False)) (λ_ _ q=>q.elim) (λ_ _=>rfl)
  have l:=i.chg (f.chg (S:=λ_=>False)) (λ_ _ q=>q.elim) (λ_ _=>rfl) (λb I=>i.rN b (yan f.size I))
  refine yai (Dn m _ _ _ _ _ _ _ _ v o.b (ih g.n) xaa (ih g.c) s co) ?_
  rintro e D ⟨rfl,R',a5,I,ai⟩
  have i1:BS D E.P u1 u3 (st.vs++[v]) (dK (st.vs++[v])) E.N R' a5:=by rw[oh];exact I
  obtain⟨ρ',bg,a8,bE⟩:=Tq.built o l i1 ai
  exact⟨rfl,_,_,bg,a8,(Sco.kept (af.trans f)).trans bE,(Tsm.kept (af.trans f)).trans (af.trans f).size (Tsm.chg ai.chg (λq=>by
   obtain q|q:=q
   ·have:=l.rT;rw[q,o.rP]at this;omega
   ·have:=l.rT;rw[o.rR _ q]at this;omega))⟩
 have bJ:=i.t0;have aD:=iB w v;obtain⟨bh,aH,aN,aM,aS,aC⟩:=aD;have K:st.ins=st.ins:=rfl;have bu:M (eg st v p=if jf _=true then .error _ else .ok _):=rfl;generalize eg _ v p=r at bu⊢;clear ax C x i aY g K;go_enter func167,ntmps167;go_upto_region 1 with fail;generalize (w.alloc _)=aa at*;go_region_with (go_at_call 179;refine yai (cd.o _ (by first|exact ib|exact ib.drew)) ?_;rintro e Z ⟨rfl,ρ',a5,bg,a8,bE⟩;have b5:M _:=h1 bg (h1 a8 bE);clear bg a8 bE)
 all_goals
  have aE:M _:=ux b5.o.2.1.t0 b5.o.1.b xac (p:Int)
  go_wp2_with (go_at_call 150;refine yai aE.o ?_;rintro e ao (⟨I,rfl,X⟩|⟨I,rfl,X⟩);rotate_left;exact h1 rfl (.inr ⟨5,p,bu.o.trans (h3 I),rfl,it X b5.o.2.2.1.chg⟩);obtain rfl:=X.symm;have bf:=Q I;clear I)
  go_ret
  exact .inl ⟨_,_,_,bu.o.trans (h2 (by rw[bf.o];decide)),rfl,⟨_,_,_,_,_,b5.o.1,b5.o.2.1⟩,b5.o.2.2⟩
theorem zB{w}:(zeroValue 3).run prog w=.ok (h0 0) w:=by kernel_rfl
theorem ET(w):(zeroValue 173).run prog w=.ok (.agg #[.slice none 0 0,.nilIface]) w:=by kernel_rfl
theorem EU{W}(h:PrM W ρ (.map mp) loc)(s):∀A,Kept 0 0 W A->(Instr.lookup 98 (.map mp) (dJ s) true).run prog A=.ok (.tuple #[h0 (((kj loc s).getD 0:Nat):Int),.bool (kj loc s).isSome]) A:=λA k=>by
 obtain⟨e,rfl⟩|⟨q,e,_,an⟩:=h
 ·cases e
  exact MD underlying98 underlying9 zB s
 ·cases e
  have:=qY (an.chg (k.chg (S:=λ_=>False)) (λc=>c)) underlying98 underlying9 zB s
  rw[this]
  cases kj loc s<;>rfl
theorem sQ{W aI ab}(h:Mp W aI (mE ab))(s):∀A,Kept 0 0 W A->(Instr.lookup 98 (.map (some aI)) (dJ s) true).run prog A=.ok (.tuple #[h0 ((match d8 ab s with|some (.val _ v)=>v|_=>0:Nat):Int),.bool (match d8 ab s with|some (.val _ _)=>true|_=>false)]) A:=λA k=>by
 rw[qY (h.chg (k.chg (S:=λ_=>False)) (λc=>c)) underlying98 underlying9 zB s]
 grind[mE]
def LkO(w:World)(r:Rs Nat)(e:Ending)(w':World):Prop:=Kept 0 0 w w'/\((∃v:Nat,r=.ok v/\e=.returned (.int .i64 (v:Int)))\/∃c p,r=.error (c,p)/\e=Thr c (p:Nat))
theorem jU(h:t.sym≠[]):cvT t=⟨eV t.text,t.text,t.pos⟩:=by unfold cvT;grind
theorem bP.qcj(h:Zp:=by
 exact⟨rfl,ay.o.drew,.inr ⟨3,ap,aF.o,rfl⟩⟩):Zp:=h
theorem bP.qfi(h:Zp:=by
 clear L;generalize (w.alloc (.cells #[h0 i1,dJ J,h0 ap] 84))=aa at*;cases ab:kj loc J with
 |some v=>
  rw[ab]at aF f;simp only[Option.getD_some,Option.isSome_some]at f;clear ab i g;go_wp2;go_ret;exact⟨ay.o,.inl ⟨v,aF.o,rfl⟩⟩
 |none=>
  rw[ab]at aF f;simp only[Option.getD_none,Option.isSome_none]at f;clear ab;cases bi:d8 st.names J with
  |none=>
   rw[bi]at aF i g;simp only at i g;clear bi;go_wp2;go_region
   exact qci
  |some b=>
   cases b with
   |val bb v=>
    rw[bi]at aF i g;simp only at i g;clear bi;go_wp2;go_region
    go_wp2;go_ret;exact⟨ay.o.drew,.inl ⟨v,aF.o,rfl⟩⟩
   |fn bb ps body=>
    rw[bi]at aF i g;simp only at i g;clear bi;go_wp2;go_region
    go_wp2_with (go_at_call 52;refine yai j4 ?_;rintro e ao ⟨rfl,X⟩;obtain rfl:=X.symm);exact⟨rfl,ay.o.drew,.inr ⟨3,ap,aF.o,rfl⟩⟩):Zp:=h
theorem bP.qgv(h:Zp:=by
 obtain⟨L,_,_⟩:=eo w #[h0 (eV J),dJ J,h0 ap] 84 (ib).chg (S:=λ_=>False) (λc=>c);have aF:M (dX st loc ⟨ts,ap,J⟩=match kj loc J with|some v=>.ok v|none=>match d8 st.names J with|some (.val _ v)=>.ok v|_=>.error (3,ap)):=rfl;generalize dX st loc ⟨ts,ap,J⟩=r at aF⊢;have ba:=dZ aL C.lt C.t1;have f:=EU aB J _ aL;have i:=sQ C.v J _ aL;have g:=sQ C.v J _ aL.drew;have aV:=C.lt;have ay:=Q aL;clear ax C aB aL;generalize eV J=i1 at*;go_enter func163,ntmps163;go_upto_region 1 with fail;have bH:(w.alloc (.cells #[h0 i1,dJ J,h0 ap] 84)).cell? ⟨w.heap.size,0,none⟩=some (h0 i1):=L 0;exact qfh):Zp:=h
open bP in
theorem nQ{E}(h:Tq E ρ w st aO G)(aB:PrM w ρ (.map mp) loc)(az:t.sym≠[]):
  Calls prog 163 #[ge E.T,tkV (cvT t),.map mp] w (LkO w (dX st loc t)):=by
 exact qgu
theorem vV(h:t.sym≠[]):cvT t=⟨eV t.text,t.text,t.pos⟩:=by unfold cvT;rw[h2 h]
theorem cS.qdh(h:Zp:=by
 have X:decide (9<x-48)=false:=yaw xaa;go_wp2_with fail;exact⟨⟨trivial,k+1,by omega,by go_num,by rw[R.o]⟩,by simp[intOf];omega⟩):Zp:=h
open cS in
theorem MK{l}(h:Dgs l)(aB:0<l.length){W}:Calls prog 201 #[dJ l] W λe A=>e=.returned (.tuple #[h0 (ek l),.nilIface])/\Kept 0 0 W A:=by
 have ab:=h.len;have ai:=mb l;have I:prog.underlying 5=some (.int .u8):=by kernel_rfl
 have aF:=Lib.run_convert_string_bytes W 9 22 5 ⟨l.toArray⟩ underlying9 underlying22 I;rw[ai]at aF;have f:=nH W 5 l;have ay:M _:=lg W 5 ⟨l.toArray⟩
 have aE:M (∀k,k<l.length->(Lib.bytesWorld W 5 _).cell? _=some _):=λk H=>by
  obtain aX|⟨s,aK,bD,_,bR⟩:=f.at_
  ·omega
  ·cases bD
   have:=bR k H
   rw[Nat.zero_add,nC l k H]at this
   exact this
 have U:=Er l 0;have fu:=h.d 0 aB;have aJ:=Q h;have i:(bt l 0==45)=false:=yam xaa;have g:(bt l 0==43)=false:=yam xaa;clear h f fu;generalize grownCap W _ 0 5=bZ at aF;generalize Lib.bytesWorld W 5 _=aq at*;go_enter func201,ntmps201;go_wp2_with fail;go_loopw [6,49] (λv bF A=>A=aq/\∃k:Nat,k<=l.length/\bF=h0 k/\v=h0 (ek (l.take k))) (λ_ bF _=>l.length-(intOf bF).toNat)
 case atStart=>exact⟨rfl,0,yad,rfl,rfl⟩
 case round=>
  obtain⟨rfl,k,H,rfl,rfl⟩:=hrel;by_cases aV:k<l.length
  ·have aY:=aE.o k aV;have aT:=aJ.o.d k aV;have I:=lY aJ.o H;have R:M _:=pZ l k aV;clear i g U;generalize bt l k=x at aY aT R;generalize ek _=v at I R⊢;have a9:IntKind.i64.wrap (v*10)=v*10:=by rw[IntKind.wrap_i64];omega
   have bj:IntKind.u8.wrap (x-48)=x-48:=by unfold IntKind.wrap;simp[IntKind.bits,IntKind.signed];omega
   exact qdg
  obtain rfl:k=l.length:=xaa;have bH:¬((l.length:Int)<l.length):=xaa;rw[List.take_length];go_wp2_with fail;go_ret2
  exact⟨rfl,ay.o⟩
theorem zC{k}(h:Dgs k.text)(ai:k.sym≠[])(aB:k.text≠[])(W):Calls prog 182 #[tkV (cvT k)] W λe A=>e=.returned (h0 (ek k.text))/\Kept 0 0 W A:=by
 rw[vV ai];obtain⟨ts,ap,J⟩:=k;simp only at h aB⊢;unfold tkV;simp only;have aL:=dE 0 0 W (.cells #[h0 (eV J),dJ J,h0 ap] 84);have b0:M (∀aq,Kept 0 0 W _->Calls _ _ _ aq λe A=>e=.returned _/\Kept 0 0 W _):=λaq af=>yai (MK h (List.length_pos_iff.2 aB)) (λe D ⟨a,b⟩=>⟨a,af.trans b⟩);have ay:=Q aL;clear aL h aB ai;go_enter func182,ntmps182;go_wp2_with (first|(go_at_call 201;refine yai (b0.o _ ay.o) ?_;rintro e aa ⟨rfl,(ag:M _)⟩)|go_in);go_ret;exact⟨rfl,ag.o⟩
theorem W.qbc(h:Zp:=by
 generalize ek _=n at*;cases I:lenB n with
 |true=>
  have cb:M _:=λw=>by have:=oR n w;rw[I]at this;exact this
  clear I;go_enter func171,ntmps171;go_upto_region 3 with (first|(go_at_call 182;refine yai (bC.o _) ?_;rintro e aa ⟨rfl,(ag:M _)⟩;obtain⟨ae,aP,aQ,aU⟩:=aw.o _ ag.o;clear ae)|(go_at_call 181;refine yai (cb.o _) ?_;rintro e Z ⟨rfl,X⟩;obtain rfl:=X.symm));go_wp2_with (go_at_call 182;refine yai (bC.o _) ?_;rintro e ao ⟨rfl,a5⟩;have i:M _:=ag.o.trans a5;clear a5);go_ret;exact⟨(aw.o _ i.o).1,.inl ⟨trivial,rfl⟩⟩
 |false=>
  have cb:M _:=λw=>by have:=oR n w;rw[I]at this;exact this
  clear I;go_enter func171,ntmps171;go_wp2_with (first|(go_at_call 182;refine yai (bC.o _) ?_;rintro e aa ⟨rfl,(ag:M _)⟩;obtain⟨ae,aP,aQ,aU⟩:=aw.o _ ag.o;clear ae)|(go_at_call 181;refine yai (cb.o _) ?_;rintro e Z ⟨rfl,X⟩;obtain rfl:=X.symm)|(go_at_call 52;refine yai j4 ?_;rintro e a7 ⟨rfl,X⟩;obtain rfl:=X.symm));exact⟨rfl,(aw.o _ ag.o).1,.inr ⟨trivial,rfl⟩⟩):Zp:=h
open W in
theorem qk{k}(h:Dgs k.text)(ai:k.sym≠[])(aB:k.text≠[])(W):Calls prog 171 #[tkV (cvT k)] W λe A=>Kept 0 0 W A/\((lenB (ek k.text)=true/\e=.returned (h0 (ek k.text)))\/(lenB (ek k.text)=false/\e=Thr 4 (k.pos:Nat))):=by
 exact qbb
theorem X.qbc(h:Zp:=by
 generalize ek _=n at*;cases I:jL n m with
 |true=>
  have cb:M _:=λw=>by have:=qx n m w;rw[I]at this;exact this
  clear I;go_enter func172,ntmps172;go_upto_region 3 with (first|(go_at_call 182;refine yai (bC.o _) ?_;rintro e aa ⟨rfl,(ag:M _)⟩;obtain⟨ae,aP,aQ,aU⟩:=aw.o _ ag.o;clear ae)|(go_at_call 183;refine yai (cb.o _) ?_;rintro e Z ⟨rfl,X⟩;obtain rfl:=X.symm));go_wp2_with (go_at_call 182;refine yai (bC.o _) ?_;rintro e ao ⟨rfl,a5⟩;have i:M _:=ag.o.trans a5;clear a5);go_ret;exact⟨(aw.o _ i.o).1,.inl ⟨trivial,rfl⟩⟩
 |false=>
  have cb:M _:=λw=>by have:=qx n m w;rw[I]at this;exact this
  clear I;go_enter func172,ntmps172;go_wp2_with (first|(go_at_call 182;refine yai (bC.o _) ?_;rintro e aa ⟨rfl,(ag:M _)⟩;obtain⟨ae,aP,aQ,aU⟩:=aw.o _ ag.o;clear ae)|(go_at_call 183;refine yai (cb.o _) ?_;rintro e Z ⟨rfl,X⟩;obtain rfl:=X.symm)|(go_at_call 52;refine yai j4 ?_;rintro e a7 ⟨rfl,X⟩;obtain rfl:=X.symm));exact⟨rfl,(aw.o _ ag.o).1,.inr ⟨trivial,rfl⟩⟩):Zp:=h
open X in
theorem xX{k}(h:Dgs k.text)(ai:k.sym≠[])(aB:k.text≠[]){m}(W):Calls prog 172 #[tkV (cvT k),h0 m] W λe A=>Kept 0 0 W A/\((jL (ek k.text) m=true/\e=.returned (h0 (ek k.text)))\/(jL (ek k.text) m=false/\e=Thr 4 (k.pos:Nat))):=by
 exact qbb
theorem ML:(prog.info? 232).map (λi=>(i.zero,i.size,i.bytes))=some (some (.agg #[.nilIface,.map none,.bool false]),3,32):=by kernel_rfl
theorem vW:∃bS,prog.info? 232=some bS/\bS.zero=some (.agg #[.nilIface,.map none,.bool false])/\bS.size=3/\bS.bytes=32:=by
 have h:=ML;simp_all
theorem mJ(w){bE rest o a i1}(an:o.guard=none)(s x)
  (av:o.op=.call {callee:=.builtin .append,args:=#[s,x],argTypes:=#[100,100]})
  (B) (v) (ys) (ai:a.eval s=v) (aW:w.ownsRow B 232 3 v ys.length (tkC ys))
  (aG) (y) (z:y.v.oneCell'=true) (J:y.p.oneCell'=true) (ar:a.eval x=hZ aG 1 1) (c0:w.cell? ⟨aG,0,none⟩=some y.v) (c1:w.cell? ⟨aG,1,none⟩=some y.p) (c2:w.cell? ⟨aG,2,none⟩=some (.bool y.t.ent))
  (F:ys.length+1<=100000000) (l:B<=w.heap.size)
  (h:∀g cap n D,n=(ys++[y]).length->D.ownsRow B 232 3 (hZ g n cap) n (tkC (ys++[y]))->Chg (λb=>v.ownBlock=some b) w D->(v.ownBlock=some g\/g=w.heap.size)->g<D.heap.size->wpList prog bE i1 rest (a.put o.dst (hZ g n cap)) D):wpList prog bE i1 (o::rest) a w:=by
 obtain⟨bS,hi,ch,b6,ci⟩:=vW;refine wpList_append_lies w an s x _ av B 232 _ _ 3 _ underlying100 hi ch b6 ci rfl xab v _ _ ai aW _ 1 1 y.cells ar rfl ?_ ?_ xab (by unfold maxLen;omega) xaa l _ rfl ?_
 ·intro j u aK;match j,aK with
  |0,aK=>cases aK<;>grind[fL]
  |1,aK=>cases aK;rw[fL];exact c1
  |2,aK=>cases aK;rw[fL];exact c2
 ·intro u bd;simp only[TkV.cells,List.mem_cons,List.not_mem_nil,or_false]at bd;obtain rfl|rfl|rfl:=bd
  ·exact z
  ·exact J
  rfl
 intro g cap D af ad a5 b0;have e:ys.length+1=(ys++[y]).length:=by grind
 rw[e,<-rh,<-pA]at af;rw[e];exact h g _ _ _ rfl af (eD ad) a5 b0
theorem nR{W}(c:Chg S W aq)(B o v):Chg (λb=>S b\/b=B) W (aq.setCell ⟨B,o,none⟩ v):=
 (Chg.chain (S:=λb=>S b\/b=B) ⟨c.os,c.tape,c.output,c.size,λk H V=>c.block k H (λq=>V (.inl q))⟩ (dV (S:=λb=>S b\/b=B) aq B o v (.inr rfl)))
theorem Tq.push{E W y}(ax:TqB E ρ W ins vs outs u1 u3 Y)(C:TqT E ρ W names calls aO G bm am)(c:Chg (λb=>bm.ownBlock=some b) W aq)(aG:bm.ownBlock=some g\/g=W.heap.size)(aV:g<aq.heap.size)(V:n=(aO.reverse++[y]).length)(aw:aq.ownsRow E.N 232 3 (hZ g n cap) n (tkC (aO.reverse++[y])))(aY:Nd W (λb=>b<E.N) y.v y.t.e/\PrM W ρ y.p y.t.loc/\ENk y.t.e):
  ∃ρ',TqB E ρ' (aq.setCell ⟨E.T,4,none⟩ (hZ g n cap)) ins vs outs u1 u3 Y/\TqT E ρ' (aq.setCell ⟨E.T,4,none⟩ (hZ g n cap)) names calls (y::aO) G (hZ g n cap) am/\Sco ρ W ρ' (aq.setCell ⟨E.T,4,none⟩ (hZ g n cap)):=by
 have c2:=nR c E.T 4 (hZ g n cap);have f:∀b,(bm.ownBlock=some b\/b=E.T)->ρ b=2\/ρ b=8:=λb q=>q.elim (λq=>.inr (C.rk b q)) (λq=>.inl (it q C.rT));have o:TcC E _ _ (hZ g n cap) _:=(C.toTcC.chg c (λq=>ip (C.rk _ q) C.rT)).set4 _
 have s:∀b,g=b->b≠E.T:=λb q e=>by
  obtain d|d:=aG
  ·have m:=C.rk _ d;have:=C.rT;grind
  ·have:=C.lt;omega
 have h:(aq.setCell ⟨E.T,4,none⟩ (hZ g n cap)).ownsRow E.N 232 3 (hZ g n cap) (y::aO).length (tkC (y::aO).reverse):=by
  rw[List.reverse_cons,show(y::aO).length=n by rw[V];simp];exact dP aw (λq=>s _ rfl (by simpa[Value.ownBlock] using q))
 have cv:=fH C.x c2 (λb q r=>by have:=C.rx b q;grind);have bY:(aq.setCell ⟨E.T,4,none⟩ (hZ g n cap)).heap.size=aq.heap.size:=by simp[go_sem]
 have j:∀ρ':Nat->Nat,(∀b,b<W.heap.size->ρ' b=ρ b)->(∀b,aq.heap.size<=b->ρ' b=0)->ρ' g=8->TqB E _ _ _ _ _ _ _ _/\TqT E _ _ _ _ _ _ _ _/\Sco _ W _ _:=λρ' e i ak=>by
  have ds:∀b,(hZ g n cap).ownBlock=some b->ρ' b=8:=λb q=>by
   grind[Value.ownBlock]
  have ab:∀aX∈y::aO,Nd W _ _ aX.t.e/\PrM W _ _ aX.t.loc/\ENk aX.t.e:=λaX bR=>by
   obtain rfl|bR:=List.mem_cons.1 bR
   ·exact aY
   ·exact C.l aX bR
  have l:=TqT.own C c2 (λb _ q=>by grind) e (λb I=>i b xaa) o h ds cv (λb q=>(e b (dO C.x q).2).trans (C.rx b q)) ab
  exact h1 (ax.chg c2 (λb _ q=>by grind) e) (h1 l (Sco.of c2 (λb _ q=>by grind) e))
 obtain d|d:=aG
 ·exact⟨_,j _ (λ_ _=>rfl) (λb I=>C.rN b (yan c.size I)) (C.rk g d)⟩
 exact xdw
theorem EV{E}(h:Tq E ρ w st aO G)(ab:aO.length<=50000000){F bM}(ae:Nd w (λb=>b<E.N) (.iface F aP) bM)(H:ENk bM)(aB:PrM w ρ (.map mp) loc):
  Calls prog 157 #[ge E.T,.iface F aP,.map mp] w λe D=>e=.returned (.tuple #[])/\∃ρ',Tq E ρ' D st (⟨.iface F aP,.map mp,⟨bM,loc,false⟩⟩::aO) G/\Sco ρ w ρ' D:=by
 obtain⟨u1,u3,Y,bm,am,ax,C⟩:=h;have af:=dE 0 0 w (.cells #[.iface F aP,.map mp,.bool false] 232);have x:=ax.chg (af.chg (S:=λ_=>False)) (λ_ _ q=>q.elim) (λ_ _=>rfl);have i:=C.chg (af.chg (S:=λ_=>False)) (λ_ _ q=>q.elim) (λ_ _=>rfl) (λb I=>C.rN b (yan af.size I));have aY:Nd _ _ _ _/\PrM _ _ _ _/\ENk _:=⟨ae.keep af,aB.chg (af.chg (S:=λ_=>False)) (λ_ q=>q.elim) (λ_ _=>rfl),H⟩
 obtain⟨L,_,_⟩:=eo w #[.iface F aP,.map mp,.bool false] 232 (ib).chg (S:=λ_=>False) (λc=>c);have bH:(w.alloc _).cell? _=some (.iface _ _):=L 0;have n1:(w.alloc _).cell? _=some (.map _):=L 1;have aI:(w.alloc _).cell? _=some (.bool _):=L 2;have z:M (¬bm.ownBlock=some E.T):=λq=>by have m:=C.rk _ q;have:=C.rT;omega
 have bs:=C.t4;have aw:=Q x;have bW:=Q i;have u:=Q aY;have bc:M _:=h1 bH (h1 n1 aI);have ay:=Q af;clear ax C x i aY bH n1 aI af L ae H aB;go_enter func157,ntmps157;go_wp2_with (at_builtin;(refine mJ _ rfl _ _ rfl _ bm _ rfl (by rw[List.length_reverse];exact bW.o.k) _ ⟨_,_,⟨bM,loc,_⟩⟩ rfl rfl rfl bc.o.1 bc.o.2.1 bc.o.2.2 (by grind) bW.o.sz ?_;intro g cap n bn b4 j f a0 cr;have O:M _:=Tq.push aw.o bW.o f a0 cr b4 j u.o;have o:=(f.cell bW.o.lt z.o).trans bW.o.t4;have l:=(f.frozen bW.o.lt z.o).trans (bW.o.fz 4);clear b4 j f a0 cr));go_end0
 obtain⟨ρ',bg,a8,bE⟩:=O.o;exact⟨rfl,_,⟨_,_,_,_,_,bg,a8⟩,(Sco.kept ay.o).trans bE⟩
def OfR(W:World)(ρ:Nat->Nat)(v:Value)(ys:List Nat):Prop:=W.ownsRow 0 3 1 v ys.length (ie ys)/\∀b,v.ownBlock=some b->ρ b=0
theorem OfR.sco{W}(h:OfR W ρ v ys)(s:Sco ρ W ρ' A):OfR A ρ' v ys:=⟨fH h.1 s.chg (λb q r=>r (h.2 b q)),λb q=>(s.ext b (dO h.1 q).2).trans (h.2 b q)⟩
theorem sR(w g o n c ys)(bw:n<=10000000)(ar:ys.length=n)(aG:g<w.heap.size)(X:∀k,k<n->w.cell? ⟨g,o+k,none⟩=some (h0 (ys.getD k 0:Nat))):
  Calls prog 105 #[.slice (some ⟨g,o,none⟩) n c] w λe D=>∃bv cap,e=.returned (hZ bv n cap)/\w.heap.size<=bv/\bv<D.heap.size/\D.ownsRow w.heap.size 3 1 (hZ bv n cap) n (ie ys)/\Kept 0 0 w D:=by
 obtain⟨bS,hi,ch,b6,ci⟩:=info_parts qy
 have i:(binOp .eql 23 (.slice (some ⟨g,o,none⟩) n c) (.slice none 0 0)).run prog w=.ok (.bool false) w:=by
  simp only[binOp];simp[run_equal_slice_nil w 23 3 (some ⟨g,o,none⟩) n c underlying23]
 have aL:=dE 0 0 w (.cells #[] 3)
 have bc:M (∀j u,(ie ys)[j]? =some u->(w.alloc (.cells #[] 3)).cell? ((⟨g,o,none⟩:Addr).add j)=some u):=λj u bd=>by
  have aK:j<ys.length:=by
   have:=(List.getElem?_eq_some_iff.1 bd).1
   simpa[ie] using this
  have e:u=h0 (ys.getD j 0:Nat):=by
   unfold ie at bd
   rw[List.getElem?_map,yal aK]at bd
   rw[yah,yal aK]
   exact(h4 bd).symm
  rw[e,fL]
  exact dZ aL aG (X j xaa)
 have bl:M _:=World.ownsRow_made (base:=w.heap.size) (e:=3) (size:=1) w #[] 0 yac (by unfold maxLen;omega) rfl;have T:=Q aL;have be:M ((ie ys).length=n):=by show _=_;rw[ie,List.length_map,ar]
 clear X ar aL aG;go_enter func105,ntmps105;go_wp2_with (first|(at_builtin;refine wpList_append_own _ rfl _ _ 23 rfl w.heap.size 3 bS (h0 0) 1 8 underlying23 hi ch b6 ci rfl xab _ _ _ rfl bl.o ⟨g,o,none⟩ n c (ie ys) rfl ?c0 bc.o ?c2 ?c3 ?c4 ?c5 ?_))
 case c0=>exact be.o
 case c2=>
  intro u bd;unfold ie at bd;obtain⟨x,_,rfl⟩:=List.mem_map.1 bd;rfl
 case c3=>unfold maxLen;omega
 case c4=>omega
 intro ae bn aB a0 f;obtain⟨bv,cap,rfl,L,bi⟩:=Dq aB f;have R:M _:=mP (base:=w.heap.size) a0 (λk H=>by have h:w.heap.size=k:=(by simpa[Value.ownBlock] using H);omega) T.o yac;have bP:=Q aB;clear aB a0 f;go_wp2;go_ret;exact⟨bv,cap,rfl,L,bi,bP.o,R.o⟩
theorem xY{w}:Calls prog 105 #[.slice none 0 0] w λe D=>e=.returned (.slice none 0 0)/\D=w:=by
 have i:(binOp .eql 23 (.slice none 0 0) (.slice none 0 0)).run prog w=.ok (.bool true) w:=by
  exact xhh
 go_enter func105,ntmps105;go_wp2;go_ret;exact⟨rfl,rfl⟩
theorem vX{Z ao bZ}(b1:ys.length=n)(au:Z.ownsRow w.heap.size 3 1 (hZ bv n bZ) n (ie ys))(aC:∀b,w.heap.size<=b->ρ b=0)(c:Chg (λb=>ρ b≠0) Z ao):OfR ao ρ (hZ bv n bZ) ys:=by
 subst b1;have bL:=dO au (k:=bv) rfl
 have z:∀b,(hZ bv ys.length bZ).ownBlock=some b->ρ b=0:=λb q=>by
  grind[Value.ownBlock]
 exact⟨fH ⟨au.1,au.2.imp id (λ⟨g,cap,_,K,_,b⟩=>⟨g,_,_,K,yad,b⟩)⟩ c (λb q r=>r (z b q)),z⟩
theorem Tq.cut{E W xs' xv'}
  (ax:TqB E ρ W ins vs outs u1 u3 Y) (C:TqT E ρ W names calls aO G bm am) (k:Kept 0 0 W aq) (ar:W.ownsRow E.N 3 1 xv' xs'.length (ie xs')) (m:∀b,xv'.ownBlock=some b->am.ownBlock=some b):
  TqB E ρ (aq.setCell ⟨E.T,5,none⟩ xv') ins vs outs u1 u3 Y/\TqT E ρ (aq.setCell ⟨E.T,5,none⟩ xv') names calls aO xs' bm xv'/\Sco ρ W ρ (aq.setCell ⟨E.T,5,none⟩ xv'):=by
 have c2:=nR (k.chg (S:=λ_=>False)) E.T 5 xv';have f:∀b,(False\/b=E.T)->ρ b=2:=λb q=>q.elim False.elim (λq=>it q C.rT);have o:TcC E _ _ _ xv':=(C.toTcC.chg (k.chg (S:=λ_=>False)) (λq=>q)).set5 _
 refine⟨ax.chg c2 (λb _ q=>by grind) (λ_ _=>rfl),TqT.own C c2 (λb _ q=>.inl (f b q)) (λ_ _=>rfl) (λb I=>C.rN b (yan c2.size I)) o (fH C.k c2 (λb q r=>by have:=C.rk b q;grind)) C.rk
  (fH ar c2 (λb q r=>by have:=C.rx b (m b q);grind)) (λb q=>C.rx b (m b q)) C.l,Sco.of c2 (λb _ q=>by grind) (λ_ _=>rfl)⟩
theorem j.qah(h:Zp:=by
 obtain d|d:=Nat.lt_or_ge fr cap
 ·have bP:M _:=aE.o fr (cap-fr) (.inl rfl);clear aE;go_enter func160,ntmps160;go_wp2_with (go_at_call 105;go_loud (refine yai bP.o ?_;rintro e Z ⟨bv,bZ,rfl,bz,aJ,au,be⟩;obtain⟨i,f⟩:=T.o _ be;have br:M _:=h1 bz (h1 aJ (h1 au be));clear bz aJ au be));go_ret;obtain⟨bz,aJ,au,be⟩:=br.o;obtain⟨bg,a8,bE⟩:=b5.o _ be;exact⟨_,rfl,vX (by rw[List.length_drop,<-O.o.1]) au s.o (dV _ _ _ _ F.o),⟨u1,u3,Y,bm,_,bg,a8⟩,bE⟩
 have aW:cap=fr:=xaa;have bA:m=fr:=xaa;have bs:n=0:=xaa;have bP:M _:=sR w g 0 0 0 (G.drop fr) xaa (by rw[List.length_drop];have:=O.o;omega) aG (λk H=>by omega);subst aW;subst bA;subst bs;clear aE d;go_enter func160,ntmps160;go_wp2_with (go_at_call 105;go_loud (refine yai bP.o ?_;rintro e Z ⟨bv,bZ,rfl,bz,aJ,au,be⟩;obtain⟨i,f⟩:=T.o _ be;have br:M _:=h1 bz (h1 aJ (h1 au be));clear bz aJ au be));go_ret;obtain⟨bz,aJ,au,be⟩:=br.o;obtain⟨bg,a8,bE⟩:=b5.o _ be;exact⟨_,rfl,vX (by rw[List.length_drop,<-O.o.1];omega) au s.o (dV _ _ _ _ F.o),⟨u1,u3,Y,bm,_,bg,a8⟩,bE⟩):Zp:=h
open j in
theorem AO{E}(h:Tq E ρ w st aO G)(n)(V:n<=G.length)(ab:G.length<=6000000):
  Calls prog 160 #[ge E.T,h0 n] w λe D=>∃v,e=.returned v/\OfR D ρ v (G.drop (G.length-n))/\Tq E ρ D st aO (G.take (G.length-n))/\Sco ρ w ρ D:=by
 obtain⟨u1,u3,Y,bm,am,ax,C⟩:=h;have aZ:=C.t5;have bS:=C.fz 5;obtain⟨K,a6⟩|⟨g,cap,bp,K,L,bi,U,ae,aF,ah⟩:=C.x.2
 ·subst K;have I:=List.length_eq_zero_iff.1 a6;subst I;have ay:n=0:=by simpa using V
  subst ay;have b5:M _:=Tq.cut (xs':=[]) (xv':=.slice none 0 0) ax C (Kept.refl 0 0 w) (yau w (b:=E.N) 3 (s:=1)) (λb q=>q);have cz:M (OfR w ρ (.slice none 0 0) []):=⟨yau w (b:=0) 3 (s:=1),λb q=>by cases q⟩
  have aV:=C.lt;clear ax C V a6;go_enter func160,ntmps160;go_wp2_with (go_at_call 105;refine yai xY ?_;rintro e Z ⟨rfl,X⟩;obtain rfl:=X.symm);go_ret;obtain⟨bg,a8,bE⟩:=b5.o;exact⟨_,rfl,cz.o.sco bE,⟨u1,u3,Y,bm,_,bg,a8⟩,bE⟩
 exact qag
theorem Drawn.kept0{D}(h:Drawn w D):Kept 0 0 w D:=by
 obtain⟨m,rfl⟩:=h;exact ed 0 0 (w:=w) m
theorem vY{E}(h:Tq E ρ w st aO G){a}(F:a<st.vs.length):
  Calls prog 168 #[ge E.P,h0 a] w λe D=>e=.returned (h0 (dS st a))/\Kept 0 0 w D:=by
 obtain⟨u1,u3,Y,bm,am,ax,C⟩:=h;exact yai (An w _ _ a ax.b F) (λe D ⟨z,J⟩=>⟨z,J.kept0⟩)
theorem Tq.t0{E}(h:Tq E ρ w st aO G):w.cell? ⟨E.T,0,none⟩=some (ge E.P)/\E.T<w.heap.size:=by
 obtain⟨u1,u3,Y,bm,am,ax,C⟩:=h;exact⟨C.t0,C.lt⟩
theorem vZ{E}(h:Tq E ρ w st aO G){a}(F:a<st.vs.length)(p:Nat):
  Calls prog 170 #[ge E.T,h0 p,h0 a] w λe D=>((dS st a=1/\e=.returned (.tuple #[]))\/(dS st a≠1/\e=Thr 4 (p:Nat)))/\Kept 0 0 w D:=by
 obtain⟨bJ,aV⟩:=h.t0;have bf:M _:=vY h F;clear h F;by_cases c:dS st a=1
 ·rw[c]at bf⊢;go_enter func170,ntmps170;go_wp2_with (go_at_call 168;refine yai bf.o ?_;rintro e aa ⟨rfl,(ay:M _)⟩);go_end0
  exact⟨.inl ⟨trivial,rfl⟩,ay.o⟩
 have V:=yam c;generalize dS _ a=l at*;go_enter func170,ntmps170;go_wp2_with (first|(go_at_call 168;refine yai bf.o ?_;rintro e aa ⟨rfl,(ay:M _)⟩)|(go_at_call 52;refine yai j4 ?_;rintro e ao ⟨rfl,X⟩;obtain rfl:=X.symm));exact⟨rfl,.inr ⟨c,rfl⟩,ay.o⟩
theorem EW{E}(h:Tq E ρ w st aO G)(V:0<st.vs.length)(p:Nat){i}:
  Calls prog 173 #[ge E.T,h0 p,h0 i] w λe D=>((jf st.vs=false/\e=.returned (h0 i))\/(jf st.vs=true/\e=Thr 5 (p:Nat)))/\D=w:=by
 obtain⟨u1,u3,Y,bm,am,ax,C⟩:=h;have aE:M _:=ux C.t0 ax.b V p;clear ax C V;go_enter func173,ntmps173;go_wp2_with (go_at_call 150;refine yai aE.o ?_;rintro e ao (⟨I,rfl,X⟩|⟨I,rfl,X⟩);rotate_left;exact h1 rfl (h1 (.inr ⟨I,rfl⟩) X);obtain rfl:=X.symm;have bf:=Q I;clear I);go_ret;exact⟨.inl ⟨bf.o,rfl⟩,rfl⟩
def sS(st:LSt)(p d x:Nat):Rs (LSt×Nat):=
 if dS st d=1/\dS st x≠1 then eg st (dL 10 (dS st x) (d:Int) 0 0) p
 else if dS st d≠dS st x then .error (4,p)else .ok (st,d)
theorem zD{E}(h:Tq E ρ w st aO G)(g:Gd st){d x}(aT:d<st.vs.length)(ar:x<st.vs.length)(p:Nat):
  Calls prog 175 #[ge E.T,h0 p,h0 d,h0 x] w (TqR E ρ w aO G (sS st p d x)):=by
 have bW:M (∀W,Kept 0 0 w W->_):=λW k=>(h.keep k).t0;obtain⟨bJ,aV⟩:=h.t0;have be:M (∀W,Kept 0 0 w W->_):=λW k=>vY (h.keep k) ar;have aJ:M (∀W,Kept 0 0 w W->_):=λW k=>vY (h.keep k) aT;have d5:=g.lenB ar;have bu:M (∀W,Kept 0 0 w W->_):=λW k=>sP (h.keep k) g (dL 10 (dS st x) (d:Int) 0 0) (by show -1000000000<=dS st x;omega) (by show dS st x<=1000000000;omega) p;have bY:M (Tq E ρ w st aO G):=h;have aF:M (sS st p d x=if dS st d=1/\dS st x≠1 then eg st (dL 10 (dS st x) (d:Int) 0 0) p else if dS st d≠dS st x then .error (4,p)else .ok (st,d)):=rfl;generalize sS st p d x=r at aF⊢;generalize eg st (dL 10 (dS st x) (d:Int) 0 0) p=bp at aF bu;unfold dL at bu;generalize dS st d=bd at aF aJ⊢;generalize dS st x=T at aF be bu d5⊢;clear h aT ar g;by_cases c1:bd=1
 ·by_cases c2:T=1
  ·subst c1 c2;go_enter func175,ntmps175;go_upto_region 2 with (go_at_call 168;refine yai (be.o _ ib) ?_;rintro e aa ⟨rfl,(ag:M _)⟩;obtain⟨l,f⟩:=bW.o _ ag.o);go_upto_region 4 with (go_at_call 168;refine yai (aJ.o _ ag.o) ?_;rintro e Z ⟨rfl,ad⟩;have z:M _:=ag.o.trans ad;obtain⟨H,j⟩:=bW.o _ z.o;clear ad);go_wp2_with (go_at_call 168;refine yai (aJ.o _ z.o) ?_;rintro e ao ⟨rfl,a5⟩;have i:M _:=z.o.trans a5;clear a5);go_ret;exact .inl ⟨st,d,ρ,by rw[aF.o];simp,rfl,Tq.keep bY.o i.o,Sco.kept i.o,Tsm.kept i.o⟩
  subst c1;have c3:(T !=1)=true:=by simpa using c2
  have bM:M _:=aF.o.trans (h3 ⟨rfl,c2⟩);clear aF c2;go_enter func175,ntmps175;go_upto_region 2 with (go_at_call 168;refine yai (be.o _ ib) ?_;rintro e aa ⟨rfl,(ag:M _)⟩;obtain⟨l,f⟩:=bW.o _ ag.o);go_upto_region 3 with (go_at_call 168;refine yai (aJ.o _ ag.o) ?_;rintro e Z ⟨rfl,ad⟩;have z:M _:=ag.o.trans ad;obtain⟨H,j⟩:=bW.o _ z.o;clear ad);go_wp2_with (go_at_call 167;refine yai (bu.o _ z.o) ?_;rintro e ao (⟨aG,a,ρ',K,rfl,an,ai⟩|⟨c,q,K,rfl,aj⟩);rotate_left;exact h1 rfl (.inr ⟨c,q,bM.o.trans K,rfl,(Sco.kept z.o).bad aj⟩);have bl:M _:=h1 K (h1 an ai);clear K an ai);go_ret;exact .inl ⟨aG,a,ρ',bM.o.trans bl.o.1,rfl,bl.o.2.1,(Sco.kept z.o).trans bl.o.2.2.1,(Tsm.kept z.o).trans z.o.size bl.o.2.2.2⟩
 have c3:=yam c1;have ak:M _:=aF.o.trans (h2 (λq=>c1 q.1));clear aF;by_cases c2:bd=T
 ·subst c2;have bM:M _:=ak.o.trans (h2 (λq=>q rfl));clear ak c1;go_enter func175,ntmps175;go_upto_region 2 with (go_at_call 168;refine yai (be.o _ ib) ?_;rintro e aa ⟨rfl,(ag:M _)⟩;obtain⟨l,f⟩:=bW.o _ ag.o);go_upto_region 4 with (go_at_call 168;refine yai (aJ.o _ ag.o) ?_;rintro e Z ⟨rfl,ad⟩;have z:M _:=ag.o.trans ad;obtain⟨H,j⟩:=bW.o _ z.o;clear ad);go_wp2_with (go_at_call 168;refine yai (aJ.o _ z.o) ?_;rintro e ao ⟨rfl,a5⟩;have i:M _:=z.o.trans a5;clear a5);go_ret;exact .inl ⟨st,d,ρ,bM.o,rfl,Tq.keep bY.o i.o,Sco.kept i.o,Tsm.kept i.o⟩
 have c4:(bd !=T)=true:=by simpa using c2
 have bM:M _:=ak.o.trans (h3 c2);clear ak c1 c2;go_enter func175,ntmps175;go_upto_region 2 with (go_at_call 168;refine yai (be.o _ ib) ?_;rintro e aa ⟨rfl,(ag:M _)⟩;obtain⟨l,f⟩:=bW.o _ ag.o);go_upto_region 4 with (go_at_call 168;refine yai (aJ.o _ ag.o) ?_;rintro e Z ⟨rfl,ad⟩;have z:M _:=ag.o.trans ad;obtain⟨H,j⟩:=bW.o _ z.o;clear ad);go_wp2_with (first|(go_at_call 168;refine yai (aJ.o _ z.o) ?_;rintro e ao ⟨rfl,a5⟩;have i:M _:=z.o.trans a5;clear a5)|(go_at_call 52;refine yai j4 ?_;rintro e a7 ⟨rfl,X⟩;obtain rfl:=X.symm));exact⟨rfl,.inr ⟨4,p,bM.o,rfl,i.o.chg⟩⟩
theorem I4{W:World}{e g:Nat}{G u}(h:W.ownsRow B e 1 (hZ g n cap) n G):(W.setCell ⟨g,k,none⟩ u).ownsRow B e 1 (hZ g n cap) n (G.set k u):=by
 refine⟨by rw[List.length_set];exact h.1,.inr ?_⟩;obtain⟨K,_⟩|⟨aY,cap',bp,K,L,bi,U,ae,aF,ah⟩:=h.2
 ·cases K
 cases K;refine⟨g,_,_,rfl,L,heap_setCell_same W g k _ e u bi,U,ae,by grind,?_⟩;grind[List.take_set]
theorem AP{W:World}{e s m g:Nat}{G}(h:W.ownsRow B e s (hZ g n cap) m G)(o):W.frozen? ⟨g,o,none⟩=false:=by
 obtain⟨K,_⟩|⟨aY,cap',bp,K,L,bi,_⟩:=h.2<;>grind[World.frozen?]
theorem EX{W:World}{zs}(h:W.ownsRow B 3 1 (hZ g n cap) n (ie zs))(k)(H:k<zs.length):W.cell? ⟨g,k,none⟩=some (h0 (zs.getD k 0:Nat)):=by
 have:=h.cells (g:=g) rfl k (h0 (zs.getD k 0:Nat)) (by
  unfold ie
  rw[List.getElem?_map,yal H,yah,yal H];rfl)
 rwa [fL,Nat.zero_add]at this
structure Ft3(E:Tqe)(ρ:Nat->Nat)(w:World)(st:LSt)(L:List TkV)(xs:List Nat)(r:Rs (LSt×List Nat))(Maa:Int)(p:Nat)(ys:List Nat)(n G2 cp2 k:Nat)(W:World)(st1:LSt)(js:List Nat)(ρ1:Nat->Nat):Prop where
 eq:r=qd js (gE Maa p st1 (ys.drop k))
 len:js.length=k
 row:W.ownsRow 0 3 1 (.slice (some ⟨G2,0,none⟩) n cp2) n (ie (js++ys.drop k))
 c0:ρ1 G2=0
 q:Tq E ρ1 W st1 L xs
 s:Sco ρ w ρ1 W
 g:Gw st st1
 tm:Tsm E w W
theorem Ft3.keep{E r Maa W}(h:Ft3 E ρ w st aO G r Maa p ys n aA b2 k W bq js bX)(ae:Kept 0 0 W A):Ft3 E ρ w st aO G r Maa p ys n aA b2 k A bq js bX:=
 ⟨h.eq,h.len,dW h.row ae,h.c0,h.q.keep ae,h.s.trans (Sco.kept ae),h.g,h.tm.trans h.s.chg.size (Tsm.kept ae)⟩
theorem pC(h:k<ys.length):ys.drop k=ys.getD k 0::ys.drop (k+1):=by
 simp_all
theorem Ft3.skip{E r Maa W}(h:Ft3 E ρ w st aO G r Maa p ys n aA b2 k W bq js bX)(H:k<ys.length)(ab:¬dS bq (ys.getD k 0)<Maa):Ft3 E ρ w st aO G r Maa p ys n aA b2 (k+1) W bq (js++[ys.getD k 0]) bX:=by
 have e:=h.eq;have f:=h.row;rw[pC H]at e f;rw[j5 ab,nK]at e;exact⟨e,by simp[h.len],by grind,h.c0,h.q,h.s,h.g,h.tm⟩
theorem Ft3.put{E ρ w st aO G r Maa p ys n aA b2 k W aH bq st2 js bX aC j}(h:Ft3 E ρ w st aO G r Maa p ys n aA b2 k W bq js bX)(H:k<ys.length)(ab:dS bq (ys.getD k 0)<Maa)(aB:eg bq (dL 10 Maa (ys.getD k 0:Nat) 0 0) p=.ok (st2,j))(an:Tq E aC aH st2 aO G)(ai:Sco bX W aC aH)(az:Tsm E W aH)(aV:E.T<w.heap.size)(aG:Gw bq st2)(bL:w.heap.size<=aA)(bb:E.N<=w.heap.size):
  aH.ownsRow 0 3 1 (hZ aA n b2) n (ie (js++ys.drop k))/\Ft3 E ρ w st aO G r Maa p ys n aA b2 (k+1) (aH.setCell ⟨aA,k,none⟩ (h0 j)) st2 (js++[j]) aC:=by
 have I:∀b,(hZ aA n b2).ownBlock=some b->b=aA:=λb q=>by
  have:aA=b:=by simpa[Value.ownBlock] using q
  exact this.symm
 have f:=fH h.row ai.chg (λb q c=>c (by rw[I b q];exact h.c0));have c2:=(ai.ext aA (dO h.row (k:=aA) rfl).2).trans h.c0;have e:=h.eq;rw[pC H,kE ab aB,nK]at e;have l:Chg (λb=>b=aA) aH (aH.setCell ⟨aA,k,none⟩ (h0 j)):=dV _ _ _ _ rfl;refine⟨f,e,by simp[h.len],?_,c2,an.priv l (yan bb bL) c2,(h.s.trans ai).priv l bL,h.g.trans aG,(h.tm.trans h.s.chg.size az).trans (h.s.trans ai).chg.size (Tsm.chg l (λq=>by omega))⟩;have:=I4 (k:=k) (u:=h0 j) f
 have a6:(ie (js++ys.drop k)).set k (h0 j)=ie (js++[j]++ys.drop (k+1)):=by
  rw[pC H];simp[ie,h.len]
 rw[a6]at this;exact this
def FiO(E:Tqe)(ρ:Nat->Nat)(W:World)(L:List TkV)(xs:List Nat)(r:Rs (LSt×List Nat))(e:Ending)(W':World):Prop:=
 (∃st' js v ρ',r=.ok (st',js)/\e=.returned v/\OfR W' ρ' v js/\Tq E ρ' W' st' L xs/\Sco ρ W ρ' W'/\Tsm E W W')\/(∃c p,r=.error (c,p)/\e=Thr c (p:Nat)/\Chg (λb=>ρ b≠0) W W')
theorem OfR.cells{W}(h:OfR W ρ (hZ g n cap) ys):ys.length=n/\∀k,k<n->W.cell? ⟨g,k,none⟩=some (h0 (ys.getD k 0:Nat)):=by
 have V:ys.length=n:=by
  obtain⟨K,_⟩|⟨aY,cap',bp,K,_⟩:=h.1.2
  ·cases K
  injection K with _ a6 _;exact a6.symm
 refine⟨V,λk H=>?_⟩;have ar:k<ys.length:=xaa
 have:=h.1.cells (g:=g) rfl k (h0 (ys.getD k 0:Nat)) (by
  unfold ie
  rw[List.getElem?_map,yal ar,yah,yal ar];rfl)
 rwa [fL,Nat.zero_add]at this
theorem OfR.keep{W}(h:OfR W ρ v ys)(k:Kept 0 0 W A):OfR A ρ v ys:=h.sco (Sco.kept k)
theorem AQ{E}(h:Tq E ρ w st aO G)(g:Gd st)(y:OfR w ρ (hZ bv n cap) ys)(V:n<=100)(aY:∀i∈ys,i<st.vs.length)(p:Nat):
  Calls prog 180 #[ge E.T,h0 p,hZ bv n cap] w (FiO E ρ w aO G (im st ys p)):=by
 have aI:=Q y.cells.1;have F:M (∀k,k<n->_):=λk H=>gI aY (it y.cells.1 H);have bM:M _:=qZ g _ aY;have bk:M (im _ _ p=if ys.all _=true then gE _ p st _ else .error _):=rfl;generalize im _ _ p=r at bk⊢;have b1:M (∀A k,Kept 0 0 w A->k<n->A.cell? _=some _/\A.cell? _=some _):=λA k ae H=>⟨(h.keep ae).t0.1,(y.keep ae).cells.2 k H⟩
 have bg:M (∀A k,Kept 0 0 w A->k<n->_):=λA k ae H=>vY (h.keep ae) (F.o k H);have aE:M (∀A,Kept 0 0 w _->_):=λA ae=>sR A bv 0 n cap _ xaa y.cells.1 (yaj (dO y.1 rfl).2 ae.size) (λk H=>by rw[Nat.zero_add];exact(y.keep ae).cells.2 k H);have b5:M (Tq E _ w _ aO _):=h;have bl:=Q y;have br:=Q g;have bb:=g.n;clear h g y aY;go_enter func180,ntmps180;go_wp2_with fail;go_loopw [7,18] (λbG bF A=>∃k:Nat,k<=n/\bF=h0 k/\bG=h0 (mM st (ys.take k))/\M (Kept 0 0 w A)) (λ_ bF _=>n-(intOf bF).toNat)
 case atStart=>exact⟨0,yad,rfl,rfl,Kept.refl 0 0 w⟩
 case round=>
  obtain⟨k,H,rfl,rfl,bd⟩:=hrel;by_cases aV:k<n
  ·obtain⟨c1,c2⟩:=b1.o _ k bd.o aV;have bf:M _:=bg.o _ k bd.o aV;have bY:M _:=qb st _ k (it aI.o aV);generalize ys.getD k 0=x at c2 bY bf;generalize dS _ x=l at bf bY;generalize mM _ (ys.take k)=m at bY⊢;go_wp2_with (go_at_call 168;refine yai bf.o ?_;rintro e aa ⟨rfl,af⟩;have ag:M _:=bd.o.trans af;clear af);exact⟨⟨k+1,by omega,by go_num,by rw[bY.o],ag⟩,by simp[intOf];omega⟩
  obtain rfl:k=n:=xaa;have bH:=bM.o k (ix aI.o);rw[yao (ix aI.o)]at bH⊢;generalize mM st _=Maa at bH bk⊢;clear bM;have bV:=Q bd.o;clear bd;go_upto_region 8 with fail;go_loopw [33] (λbF A=>∃j:Nat,j<=k/\bF=h0 j/\M (Kept 0 0 w A)/\M (∀q,q<j->(dS st (ys.getD q 0)==Maa||dS st (ys.getD q 0)==1)=true)) (λbF _=>k-(intOf bF).toNat)
  case atStart=>exact⟨0,yad,rfl,bV,λq an=>by omega⟩
  case round=>
   obtain⟨j,aK,rfl,bd,bo⟩:=hrel;by_cases cz:j<k
   ·obtain⟨c1,c2⟩:=b1.o _ j bd.o cz;have bf:M _:=bg.o _ j bd.o cz
    have b0:M (∀l,dS st _=l->(l==Maa||l==1)=true->∀q,q<j+1->(dS _ (ys.getD q 0)==Maa||dS _ (ys.getD q 0)==1)=true):=λl ab I q an=>by
     exact xho
    have cx:M (∀l,dS st _=l->(l==Maa||l==1)=false->ys.all (λi=>dS _ i==Maa||dS _ i==1)=false):=λl ab I=>by
     rw[List.all_eq_false]
     refine⟨ys.getD j 0,?_,?_⟩
     ·exact xgh
     ·rw[ab,I];simp
    generalize bh:dS st _=l at bf;have aQ:=Q bh;clear bh;generalize ys.getD j 0=x at c2 bf aQ b0 cx;clear bo;by_cases d:l=Maa
    ·subst d;go_wp2_with (go_at_call 168;refine yai bf.o ?_;rintro e aa ⟨rfl,af⟩;have ag:M _:=bd.o.trans af;clear af);exact⟨⟨j+1,by omega,by go_num,ag,b0.o l aQ.o xac⟩,by simp[intOf];omega⟩
    have aW:(l !=Maa)=true:=by simpa using d
    by_cases bA:l=1
    ·subst bA;go_wp2_with (go_at_call 168;refine yai bf.o ?_;rintro e aa ⟨rfl,af⟩;have ag:M _:=bd.o.trans af;clear af);exact⟨⟨j+1,by omega,by go_num,ag,b0.o 1 aQ.o xac⟩,by simp[intOf];omega⟩
    have bs:(l !=1)=true:=by simpa using bA
    have bS:M _:=bk.o.trans (h2 (by rw[cx.o l aQ.o (by simp[d,bA])];decide));clear d bA;go_wp2_with (first|(go_at_call 168;refine yai bf.o ?_;rintro e aa ⟨rfl,af⟩;have ag:M _:=bd.o.trans af;clear af)|(go_at_call 52;refine yai j4 ?_;rintro e a7 ⟨rfl,X⟩;obtain rfl:=X.symm));exact⟨rfl,.inr ⟨4,p,bS.o,rfl,ag.o.chg⟩⟩
   obtain rfl:j=k:=xaa
   have bS:M _:=bk.o.trans (h3 (List.all_eq_true.2 λi hi=>by
    obtain⟨q,an,rfl⟩:=List.getElem_of_mem hi
    have:=bo.o q (iv aI.o an)
    rwa [yah,yal an]at this))
   have cl:M (∀q,q<j->dS _ (ys.getD q 0)=Maa\/dS _ (ys.getD q 0)=1):=λq an=>by
    have:=bo.o q an
    simpa using this
   have bJ:=Q bd.o;clear bo bd bk;go_upto_region 16 with (go_at_call 105;refine yai (aE.o _ bJ.o) ?_;rintro e Z ⟨aA,b2,rfl,bz,aJ,au,be⟩;have ct:M _:=h1 bz (h1 aJ (h1 au be));clear bz aJ au be);obtain⟨bz,aJ,au,be⟩:=ct.o;have aL:M _:=yan bJ.o.size bz
   have s:M (E.N<=w.heap.size/\∀b,w.heap.size<=b->ρ b=0):=by
    obtain⟨_,_,_,_,_,_,C⟩:=b5.o;exact⟨C.sz,C.rN⟩
   have cb:M (Ft3 E _ w _ aO _ r Maa p _ j _ _ 0 _ _ _ _):=⟨by rw[xS];exact bS.o,rfl,by rw[List.nil_append,List.drop_zero];exact⟨au.1,au.2.imp id (λ⟨g,_,bp,K,_,b⟩=>⟨g,_,_,K,yad,b⟩)⟩,s.o.2 _ aL.o,Tq.keep b5.o (bJ.o.trans be),Sco.kept (bJ.o.trans be),Gw.refl br.o,Tsm.kept (bJ.o.trans be)⟩
   clear ct bz aJ au be bJ aE bg b1 bS;go_loopw [57] (λbF A=>∃k:Nat,k<=j/\bF=h0 k/\M (∃bq js bX,Ft3 E ρ w st aO G r Maa p ys j aA b2 k A bq js bX)) (λbF _=>j-(intOf bF).toNat)
   case atStart=>exact⟨0,yad,rfl,⟨_,_,_,cb.o⟩⟩
   case round=>
    obtain⟨k,H,rfl,L⟩:=hrel;obtain⟨bq,js,bX,a0⟩:=L.o;clear L;by_cases aU:k<j
    ·have bk:=Q a0;have u:k<ys.length:=by rw[aI.o];exact aU
     have c2:=(OfR.sco bl.o a0.s).cells.2 k aU;have c1:=a0.q.t0.1;have cG:=F.o k aU;have cv:=yaj cG a0.g.n;have bD:=a0.g.l _ cG;have o:=cl.o k aU;have bf:M _:=vY a0.q cv;have J:M (∀A,Kept 0 0 _ A->_):=λA ae=>(a0.q.keep ae).t0.1;by_cases aj:dS bq (ys.getD k 0)<Maa
     ·have b9:dS bq (ys.getD k 0)=1:=by rw[<-bD]at o;omega
      have bu:M (∀A,Kept 0 0 _ A->_):=λA ae=>sP (a0.q.keep ae) a0.g.g (dL 10 Maa (ys.getD k 0:Nat) 0 0) (by show -1000000000<=Maa;omega) (by show Maa<=1000000000;omega) p;have D:M (∀st2 aT,eg _ _ p=.ok (st2,aT)->_):=λst2 aT e=>(lZ a0.g.g (a0.g.g.v.p10 bH (by have:=iP cv;rw[b9]at this;exact this)) e).1;have T:M (∀aq aH st2 aT aC,Kept 0 0 _ aq->eg _ _ p=.ok _->Tq E _ aH _ aO _->Sco _ _ aC _/\Tsm E _ _->_):=λaq aH st2 aT aC af e an ai=>Ft3.put (a0.keep af) u aj e an ai.1 ai.2 (Tq.t0 b5.o).2 (D.o st2 aT e) aL.o s.o.1
      have O:M (∀f,eg _ _ p=.error f->r=.error f):=λf e=>by
       have:=a0.eq
       rw[pC u,kG aj e]at this
       exact this
      have ah:=Q a0.s;have ay:k<(js++ys.drop k).length:=by rw[yak,a0.len,List.length_drop];omega
      clear a0 bk o bD u D;unfold dL at bu;generalize ys.getD k 0=x at*;rw[b9]at bf aj
      go_wp2_with (first
       |(go_at_call 168;refine yai bf.o ?_;rintro e aa ⟨rfl,(ag:M _)⟩;have c1:=J.o _ ag.o)
       |(go_at_call 167;refine yai (bu.o _ ag.o) ?_;rintro e ao (⟨st2,aT,aC,K,rfl,an,ai⟩|⟨c,q,K,rfl,aj⟩);rotate_left;exact h1 rfl (.inr ⟨c,q,O.o _ K,rfl,ah.o.bad ((Sco.kept ag.o).bad aj)⟩);obtain⟨aw,(aM:M _)⟩:=T.o _ _ _ _ _ ag.o K an ai;have ad:=EX aw k ay;have bC:=AP aw k;clear K an ai aw))
      exact⟨⟨k+1,by omega,by go_num,⟨_,_,_,aM.o⟩⟩,by simp[intOf];omega⟩
     have aD:=yaw aj;have U:M (∀A,Kept 0 0 _ A->_):=λA ae=>(a0.keep ae).skip u aj;clear a0 bk o bD u;generalize ys.getD k 0=x at*;generalize dS _ x=l at*;go_wp2_with (go_at_call 168;refine yai bf.o ?_;rintro e aa ⟨rfl,(ag:M _)⟩;have c1:=J.o _ ag.o);exact⟨⟨k+1,by omega,by go_num,⟨_,_,_,U.o _ ag.o⟩⟩,by simp[intOf];omega⟩
    obtain rfl:k=j:=xaa
    have bS:M (r=.ok (bq,js)):=by
     have:=a0.eq;rw[List.drop_of_length_le (by rw[aI.o];exact yac)]at this;show r=_;rw[this];simp[gE,qd]
    have aF:M (OfR wr bX (hZ aA k b2) js):=by
     have z:=a0.row;rw[List.drop_of_length_le (by rw[aI.o];exact yac),List.append_nil]at z;refine⟨it a0.len z,λb q=>?_⟩;have:aA=b:=by simpa[Value.ownBlock] using q
     rw[<-this];exact a0.c0
    have aB:M (Tq E _ _ _ aO _/\Sco _ w _ _/\Tsm E w _):=⟨a0.q,a0.s,a0.tm⟩
    clear a0;go_wp2;go_ret;exact .inl ⟨_,_,_,_,bS.o,rfl,aF.o,aB.o.1,aB.o.2⟩
def pfM(st:LSt)(op:Int)(ys:List Nat)(p:Nat):Rs (LSt×Nat):=match im st ys p with
 |.error f=>.error f
 |.ok (s2,f)=>eg s2 (dL op (dS s2 (f.getD 0 0)) (f.getD 0 0:Nat) (f.getD 1 0:Nat) (if ys.length=3 then (f.getD 2 0:Nat)else 0)) p
theorem OfR.form{W}(h:OfR W ρ v ys)(V:0<ys.length):∃bv cap,v=hZ bv ys.length cap:=by
 obtain⟨K,a6⟩|⟨aY,cap',bp,K,_⟩:=h.1.2<;>grind
theorem I5{W:World}{B b o bh aH aN aM aS aC}(h:b≠B):((((((W.setCell ⟨B,0,none⟩ bh).setCell ⟨B,1,none⟩ aH).setCell ⟨B,2,none⟩ aN).setCell ⟨B,3,none⟩ aM).setCell ⟨B,4,none⟩ aS).setCell ⟨B,5,none⟩ aC).cell? ⟨b,o,none⟩=W.cell? ⟨b,o,none⟩:=by
 have n:∀k,(⟨B,k,none⟩:Addr).block≠b:=λk e=>h e.symm;rw[cell_far (n 5),cell_far (n 4),cell_far (n 3),cell_far (n 2),cell_far (n 1),cell_far (n 0)]
theorem AR(W:World)(B v){aQ aU bN cp cI}(bK:W.cell? ⟨B,0,none⟩=some aP)(a9:W.cell? ⟨B,1,none⟩=some aQ)(bj:W.cell? ⟨B,2,none⟩=some aU)(bI:W.cell? ⟨B,3,none⟩=some bN)(bR:W.cell? ⟨B,4,none⟩=some cp)(bH:W.cell? ⟨B,5,none⟩=some cI):
  At ((((((W.setCell ⟨B,0,none⟩ (h0 v.op)).setCell ⟨B,1,none⟩ (h0 v.len)).setCell ⟨B,2,none⟩ (h0 v.a)).setCell ⟨B,3,none⟩ (h0 v.b)).setCell ⟨B,4,none⟩ (h0 v.c)).setCell ⟨B,5,none⟩ (.float .f64 v.k)) B 0 v:=by
 refine⟨?_,?_,?_,?_,?_,?_⟩
 ·show World.cell? _ ⟨B,0,none⟩=_;rw[fp xab,fp xab,fp xab,fp xab,fp xab,World.cell?_setCell_same (h:=bK)]
 ·show World.cell? _ ⟨B,1,none⟩=_;rw[fp xab,fp xab,fp xab,fp xab,World.cell?_setCell_same (h:=by rw[fp xab];exact a9)]
 ·show World.cell? _ ⟨B,2,none⟩=_;rw[fp xab,fp xab,fp xab,World.cell?_setCell_same (h:=by rw[fp xab,fp xab];exact bj)]
 ·show World.cell? _ ⟨B,3,none⟩=_;rw[fp xab,fp xab,World.cell?_setCell_same (h:=by rw[fp xab,fp xab,fp xab];exact bI)]
 ·show World.cell? _ ⟨B,4,none⟩=_;rw[fp xab,World.cell?_setCell_same (h:=by rw[fp xab,fp xab,fp xab,fp xab];exact bR)]
 show World.cell? _ ⟨B,5,none⟩=_;rw[World.cell?_setCell_same (h:=by rw[fp xab,fp xab,fp xab,fp xab,fp xab];exact bH)]
theorem uy{W}(k:Kept 0 0 w W){B}(ax:w.heap.size<=B){bh aH aN aM aS aC}:Kept 0 0 w ((((((W.setCell ⟨B,0,none⟩ bh).setCell ⟨B,1,none⟩ aH).setCell ⟨B,2,none⟩ aN).setCell ⟨B,3,none⟩ aM).setCell ⟨B,4,none⟩ aS).setCell ⟨B,5,none⟩ aC):=
 iz w _ (iz w _ (iz w _ (iz w _ (iz w _ (iz w W k B 0 bh ax) B 1 aH ax) B 2 aN ax) B 3 aM ax) B 4 aS ax) B 5 aC ax
theorem aE.qbi(h:Zp:=by
 have aE:M (r=eg bq (dL ax (dS bq (js.getD 0 0)) (js.getD 0 0:Nat) (js.getD 1 0:Nat) 0) p):=by
  have:=aF.o;rw[K]at this;exact this
 obtain⟨m,an,rfl⟩:=L.form xaa;have c0:=L.cells.2 0 xaa;have c1:=L.cells.2 1 xaa;exact qee):Zp:=h
theorem aE.qef(h:Zp:=by
 have bu:M (∀A,Kept 0 0 aa A->_):=λA ae=>sP (u.keep ae) bz.g (dL ax (dS bq (js.getD 0 0)) (js.getD 0 0:Nat) (js.getD 1 0:Nat) 0) (by show -1000000000<=dS bq _;omega) (by show dS bq _<=1000000000;omega) p;have aV:=Q ay;clear F bA bk aF K L u ay bz af J U;unfold dL at bu;generalize js.getD 0 0=bG at*;generalize js.getD 1 0=bB at*;exact qhd):Zp:=h
theorem aE.qhe(h:Zp:=by
 go_cut [9] (λe0 b4=>∃s,e0=ge s/\M (At b4 s 0 (dL ax ar (bG:Nat) (bB:Nat) 0)/\b4.frozen? ⟨s,4,none⟩=false/\Kept 0 0 aa b4/\aa.heap.size<=s/\s<b4.heap.size))
 case first=>
  exact xak
 case rest=>
  obtain⟨s,rfl,O⟩:=hcut;obtain⟨bo,bi,bd,x,o⟩:=O.o;have V:M _:=bu.o _ bd;have I:=Q bd;obtain⟨aP,aQ,aU,bN,cp,cI⟩:=bo;simp only[Nat.zero_add]at aP aQ aU bN cp cI;clear O bi bd x o bu bf;exact xcy):Zp:=h
open aE in
theorem EY{E}(h:Tq E ρ w st aO G)(g:Gd st)(y:OfR w ρ (hZ bv 2 cap) ys)(aY:∀i∈ys,i<st.vs.length)(p:Nat)(ax):
  Calls prog 169 #[ge E.T,h0 p,h0 ax,hZ bv 2 cap] w (TqR E ρ w aO G (pfM st ax ys p)):=by
 have l:=y.cells.1;have bk:M _:=AQ h g y xab aY p
 have bA:M (∀aG js,im st ys p=.ok (aG,js)->Gw st aG/\js.length=2/\∀j∈js,j<aG.vs.length):=λaG js e=>by
  exact xhg
 have aF:M (pfM st ax ys p=match im st ys p with|.error f=>.error f|.ok (az,f)=>eg az (dL ax (dS az (f.getD 0 0)) (f.getD 0 0:Nat) (f.getD 1 0:Nat) 0) p):=by
  show pfM st ax ys p=_;unfold pfM;rw[l];rfl
 exact qbh
theorem aF.qbi(h:Zp:=by
 have aE:M (r=eg bq (dL ax (dS bq (js.getD 0 0)) (js.getD 0 0:Nat) (js.getD 1 0:Nat) (js.getD 2 0:Nat)) p):=by
  have:=aF.o;rw[K]at this;exact this
 obtain⟨m,an,rfl⟩:=L.form xaa;have c0:=L.cells.2 0 xaa;have c1:=L.cells.2 1 xaa;have c2:=L.cells.2 2 xaa;exact qee):Zp:=h
theorem aF.qef(h:Zp:=by
 have bu:M (∀A,Kept 0 0 aa A->_):=λA ae=>sP (u.keep ae) bz.g (dL ax (dS bq (js.getD 0 0)) (js.getD 0 0:Nat) (js.getD 1 0:Nat) (js.getD 2 0:Nat)) (by show -1000000000<=dS bq _;omega) (by show dS bq _<=1000000000;omega) p;have aV:=Q ay;clear F bA bk aF K L u ay bz af J U;unfold dL at bu;generalize js.getD 0 0=bG at*;generalize js.getD 1 0=bB at*;generalize js.getD 2 0=bQ at*;exact qhd):Zp:=h
theorem aF.qhe(h:Zp:=by
 go_cut [9] (λe0 b4=>∃s,e0=ge s/\M (At b4 s 0 (dL ax ar (bG:Nat) (bB:Nat) 0)/\b4.frozen? ⟨s,4,none⟩=false/\Kept 0 0 aa b4/\aa.heap.size<=s/\s<b4.heap.size))
 case first=>
  exact xak
 case rest=>
  obtain⟨s,rfl,O⟩:=hcut;obtain⟨bo,bi,bd,x,o⟩:=O.o;have V:M _:=bu.o _ (iz aa wc bd s 4 (h0 bQ) x);have I:M _:=iz aa wc bd s 4 (h0 bQ) x;have aw:=dZ bd C.o.2 c2;obtain⟨aP,aQ,aU,bN,cp,cI⟩:=bo;simp only[Nat.zero_add]at aP aQ aU bN cp cI;clear O bd x o bu bf;exact xcy):Zp:=h
open aF in
theorem E1{E}(h:Tq E ρ w st aO G)(g:Gd st)(y:OfR w ρ (hZ bv 3 cap) ys)(aY:∀i∈ys,i<st.vs.length)(p:Nat)(ax):
  Calls prog 169 #[ge E.T,h0 p,h0 ax,hZ bv 3 cap] w (TqR E ρ w aO G (pfM st ax ys p)):=by
 have l:=y.cells.1;have bk:M _:=AQ h g y xab aY p
 have bA:M (∀aG js,im st ys p=.ok (aG,js)->Gw st aG/\js.length=3/\∀j∈js,j<aG.vs.length):=λaG js e=>by
  exact xhg
 have aF:M (pfM st ax ys p=match im st ys p with|.error f=>.error f|.ok (az,f)=>eg az (dL ax (dS az (f.getD 0 0)) (f.getD 0 0:Nat) (f.getD 1 0:Nat) (f.getD 2 0:Nat)) p):=by
  show pfM st ax ys p=_;unfold pfM;rw[l];rfl
 exact qbh
end
section
attribute[local go_sem] dI dG dF gh gj gn mkF fA eJ fU eL fV ez gy eH fB dY fW eM fX eO gz eQ fY eA gB eI fZ eB gU gV iF iG iH iI jb jc gW gX iJ iK iL iM jd je gD gq gY gF gu fS
variable{ρ:Nat->Nat}{w:World}{st:LSt}{aO:List TkV}{G ys:List Nat}{mp:Option Nat}{b:Bool}{a1:Option Addr}{n1 c1 bv cap:Nat}
theorem MN{E}(h:Tq E ρ w st aO G)(g:Gd st){t}(az:t.sym≠[])(bb:iu t.text){a5}:
  Calls prog 162 #[ge E.T,.agg #[.iface 199 (.agg #[h0 t.pos,pu,h0 (cvT t).kind,dJ (cvT t).text,h0 ((cvT t).at_:Int)]),.map mp,.bool b],a5] w (TqR E ρ w aO G (eg st ⟨1,1,0,0,0,me t.text⟩ t.pos)):=by
 rw[jU az];obtain⟨ts,ap,J⟩:=t;simp only at bb⊢;generalize eV _=i1 at*;unfold pu;have aw:M _:=mj w (.iface 199 (.agg #[h0 ap,.slice none 0 0,h0 i1,dJ J,h0 ap])) (.map mp) (.bool b);have I:prog.underlying 5=some (.int .u8):=by kernel_rfl
 have aF:=λW=>Lib.run_convert_string_bytes W 9 22 5 ⟨J.toArray⟩ underlying9 underlying22 I;have ai:=mb J;rw[ai]at aF;have bc:M (∀f c,RN _ f c->_):=λf c k=>(oF bb k).1
 have bD:J.length<=1048576:=by
  have:=pw bb;omega
 have bu:M (∀W,Kept 0 0 w W->_):=λW k=>sP (h.keep k) g ⟨1,1,0,0,0,me J⟩ (by show(-1000000000:Int)<=1;decide) (by show(1:Int)<=1000000000;decide) ap;clear h g bb;go_enter func162,ntmps162;go_upto_region 5 with (go_at_call 269;refine yai lE ?_;rintro e aa ⟨rfl,af⟩;obtain⟨(bV:M _),aP,aQ,aU,bN⟩:=aw.o _ af;clear af aU);have al:M (Kept 0 0 w (aa.alloc (.cells #[h0 ap,.slice none 0 0,h0 i1,dJ J,h0 ap] 199))):=bV.o.trans (dE 0 0 _ _);have bI:(aa.alloc _).cell? _=some (dJ _):=(eo _ #[h0 ap,.slice none 0 0,h0 i1,dJ J,h0 ap] 199 (ib).chg (S:=λ_=>False) (λc=>c)).1 3;clear aP aQ bN;change Code.wp _ _ _ _ (aa.alloc (.cells #[.int _ ap,.slice _ 0 0,.int _ _,dJ _,.int _ ap] 199));generalize (aa.alloc _)=aA at*
 go_wp2_with (first
  |(go_at_call 166;(refine yai (Mr (nH _ _ _) bD) ?_;rintro e Z ⟨f,c,rfl,i,aT⟩;obtain rfl:=bc.o f c i;have bJ:M _:=al.o.trans ((lg _ _ _).trans aT.kept0);clear i aT))
  |(go_at_call 167;refine yai (bu.o _ bJ.o) ?_;rintro e ao ah;have bY:=Q ah;obtain⟨st2,a,aC,K,rfl,_⟩|⟨c,q,K,rfl,_⟩:=ah;rotate_left;exact h1 rfl (TqR.afterK bJ.o bY.o);clear K))
 go_ret;exact TqR.afterK bJ.o bY.o
def nmR(st:LSt)(r:Rs Nat):Rs (LSt×Nat):=match r with
 |.error f=>.error f
 |.ok v=>.ok (st,v)
theorem I6{E}(h:Tq E ρ w st aO G){loc}(aB:PrM w ρ (.map mp) loc){t}(az:t.sym≠[]){p:Nat}{a5}:
  Calls prog 162 #[ge E.T,.agg #[.iface 201 (.agg #[h0 p,.slice none 0 0,h0 (cvT t).kind,dJ (cvT t).text,h0 ((cvT t).at_:Int)]),.map mp,.bool b],a5] w (TqR E ρ w aO G (nmR st (dX st loc t))):=by
 have bf:M (∀W,Kept 0 0 w W->_):=λW k=>nQ (h.keep k) (aB.chg (k.chg (S:=λ_=>False)) (λ_ q=>q.elim) (λ_ _=>rfl)) az;have bY:M (Tq E ρ w st aO G):=h;generalize dX st loc t=r at bf⊢;generalize cvT t=j at*;unfold tkV at bf;clear h aB az;have aw:M _:=mj w (.iface 201 (.agg #[h0 p,.slice none 0 0,h0 j.kind,dJ j.text,h0 j.at_])) (.map mp) (.bool b);go_enter func162,ntmps162;go_upto_region 9 with (go_at_call 269;refine yai lE ?_;rintro e aa ⟨rfl,(bV:M _)⟩;obtain⟨ag,aP,aQ,aU,bN⟩:=aw.o _ bV.o;clear ag aQ aU);have F:=bV.o.trans (dE 0 0 aa (.cells #[h0 p,.slice none 0 0,h0 j.kind,dJ j.text,h0 j.at_] 201));obtain⟨(al:M _),aK,m1,_,m3⟩:=aw.o _ F;have av:=(eo aa #[h0 p,.slice none 0 0,h0 j.kind,dJ j.text,h0 j.at_] 201 (ib).chg (S:=λ_=>False) (λc=>c))
 have bj:(aa.alloc (.cells #[h0 p,.slice none 0 0,h0 j.kind,dJ j.text,h0 j.at_] 201)).cell? ⟨aa.heap.size,2,none⟩=some (h0 j.kind):=av.1 2;have bI:(aa.alloc (.cells #[h0 p,.slice none 0 0,h0 j.kind,dJ j.text,h0 j.at_] 201)).cell? ⟨aa.heap.size,3,none⟩=some (dJ j.text):=av.1 3;have bR:(aa.alloc (.cells #[h0 p,.slice none 0 0,h0 j.kind,dJ j.text,h0 j.at_] 201)).cell? ⟨aa.heap.size,4,none⟩=some (h0 j.at_):=av.1 4;have o:=av.2.2;clear av aP bN F aK;change Code.wp _ _ _ _ (aa.alloc (.cells #[h0 p,.slice none 0 0,h0 j.kind,dJ j.text,h0 j.at_] 201));generalize (aa.alloc (.cells #[h0 p,.slice none 0 0,h0 j.kind,dJ j.text,h0 j.at_] 201))=aA at*;generalize aa.heap.size=bh at*;go_wp2_with (go_at_call 163;refine yai (bf.o _ al.o) ?_;rintro e b7 ⟨b3,(⟨v,K,rfl⟩|⟨c,q,K,rfl⟩)⟩;rotate_left;exact h1 rfl (.inr ⟨c,q,i0 K,rfl,(al.o.trans b3).chg⟩);have bl:M _:=h1 K (al.o.trans b3);clear K b3);go_ret;exact .inl ⟨st,v,ρ,i0 bl.o.1,rfl,Tq.keep bY.o bl.o.2,Sco.kept bl.o.2,Tsm.kept bl.o.2⟩
theorem E3{E}(h:Tq E ρ w st aO G)(g:Gd st)(y:OfR w ρ (hZ bv 1 cap) ys){p:Nat}:
  Calls prog 162 #[ge E.T,.agg #[.iface 206 (.agg #[h0 p,.slice a1 n1 c1]),.map mp,.bool b],hZ bv 1 cap] w (TqR E ρ w aO G (eg st (dL 9 1 (ys.getD 0 0:Nat) 0 0) p)):=by
 have aw:M _:=mj w (.iface 206 (.agg #[h0 p,.slice a1 n1 c1])) (.map mp) (.bool b);have bu:M (∀W,Kept 0 0 w W->_):=λW k=>sP (h.keep k) g (dL 9 1 (ys.getD 0 0:Nat) 0 0) (by show(-1000000000:Int)<=1;decide) (by show(1:Int)<=1000000000;decide) p;have bl:M (∀W,Kept 0 0 w W->_):=λW k=>(y.keep k).cells.2 0 xab;clear h y g;generalize eg st (dL 9 1 (ys.getD 0 0:Nat) 0 0) p=r at*;unfold dL at bu;generalize ys.getD 0 0=bG at*;go_enter func162,ntmps162;go_upto_region 15 with (go_at_call 269;refine yai lE ?_;rintro e aa ⟨rfl,(bV:M _)⟩;obtain⟨ag,aP,aQ,aU,bN⟩:=aw.o _ bV.o;clear ag aQ aU);have F:=bV.o.trans (dE 0 0 aa (.cells #[h0 p,.slice a1 n1 c1] 206));obtain⟨(al:M _),aK,m1,_,m3⟩:=aw.o _ F;have av:=(eo aa #[h0 p,.slice a1 n1 c1] 206 (ib).chg (S:=λ_=>False) (λc=>c))
 have o:=av.2.2;clear av aP bN F aK;change Code.wp _ _ _ _ (aa.alloc (.cells #[h0 p,.slice a1 n1 c1] 206));generalize (aa.alloc (.cells #[h0 p,.slice a1 n1 c1] 206))=aA at*;generalize aa.heap.size=bh at*;have c0:=bl.o _ al.o;go_wp2_with (go_at_call 167;refine yai (bu.o _ al.o) ?_;rintro e bn ah;have u:=Q ah;obtain⟨st2,a,aC,K,rfl,_⟩|⟨c,q,K,rfl,_⟩:=ah;rotate_left;exact h1 rfl (TqR.afterK al.o u.o);clear K);go_ret;exact TqR.afterK al.o u.o
theorem cP.qdf(h:Zp:=by
 have F:=bV.o.trans (dE 0 0 _ (.cells #[h0 p,.slice a1 n1 c1,h0 ax] 192));exact qft):Zp:=h
theorem cP.qfu(h:Zp:=by
 have bj:(aa.alloc _).cell? _=some (.int _ _):=av.1 2;have o:=av.2.2;clear av aP bN F aK;change Code.wp _ _ _ _ (aa.alloc (.cells _ 192));generalize (aa.alloc _)=aA at*;exact xdi):Zp:=h
open cP in
theorem AS{E}(h:Tq E ρ w st aO G)(g:Gd st)(y:OfR w ρ (hZ bv 2 cap) ys)(aY:∀i∈ys,i<st.vs.length){p:Nat}{ax}:
  Calls prog 162 #[ge E.T,.agg #[.iface 192 (.agg #[h0 p,.slice a1 n1 c1,h0 ax]),.map mp,.bool b],hZ bv 2 cap] w (TqR E ρ w aO G (pfM st ax ys p)):=by
 have aw:M _:=mj w (.iface 192 (.agg #[h0 p,.slice a1 n1 c1,h0 ax])) (.map mp) (.bool b);have bu:M (∀W,Kept 0 0 w W->_):=λW k=>EY (h.keep k) g (y.keep k) aY p ax;clear h y aY g;generalize pfM _ _ _ p=r at*;exact qde
theorem cQ.qdf(h:Zp:=by
 have F:=bV.o.trans (dE 0 0 aa (.cells #[h0 p,.slice a1 n1 c1,h0 ax] 192));exact qft):Zp:=h
theorem cQ.qfu(h:Zp:=by
 have bj:(aa.alloc (.cells #[h0 p,.slice a1 n1 c1,h0 ax] 192)).cell? ⟨aa.heap.size,2,none⟩=some (h0 ax):=av.1 2;have o:=av.2.2;clear av aP bN F aK;change Code.wp _ _ _ _ (aa.alloc (.cells #[h0 p,.slice a1 n1 c1,h0 ax] 192));generalize (aa.alloc (.cells #[h0 p,.slice a1 n1 c1,h0 ax] 192))=aA at*;exact xdi):Zp:=h
open cQ in
theorem I7{E}(h:Tq E ρ w st aO G)(g:Gd st)(y:OfR w ρ (hZ bv 3 cap) ys)(aY:∀i∈ys,i<st.vs.length){p:Nat}{ax}:
  Calls prog 162 #[ge E.T,.agg #[.iface 192 (.agg #[h0 p,.slice a1 n1 c1,h0 ax]),.map mp,.bool b],hZ bv 3 cap] w (TqR E ρ w aO G (pfM st ax ys p)):=by
 have aw:M _:=mj w (.iface 192 (.agg #[h0 p,.slice a1 n1 c1,h0 ax])) (.map mp) (.bool b);have bu:M (∀W,Kept 0 0 w W->_):=λW k=>E1 (h.keep k) g (y.keep k) aY p ax;clear h y aY g;generalize pfM st ax ys p=r at*;exact qde
