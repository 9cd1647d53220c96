import Derived.Test.YtiacbhjphaldlaaGreatDoorP30
import Derived.Test.YtiacbhjphaldlaaGreatDoorP17
namespace Go.Proofs.Z
variable{i n p}
variable{Zp:Prop}
open Tryz Go.RowKit Flt
set_option maxRecDepth 1000000
set_option maxHeartbeats 0
section
attribute[local go_sem] dI dG dF
variable{vs:List Vl}
structure Gd(st:LSt):Prop where
 n:st.vs.length<=2000
 c:dK st.vs<=50000
 ok:(List.range st.vs.length).all (okV st.ins st.vs)=true
 k:∀v∈st.vs,v.k<18446744073709551616
 i:st.ins.length<=20
 o:st.outs.length<=50
 m:st.names.length<=5000
theorem Gd.len{st}(h:Gd st):∀k,k<st.vs.length->1<=(st.vs.getD k h7).len/\(st.vs.getD k h7).len<=1000:=λk H=>by
 have z:=List.all_eq_true.1 h.ok k (List.mem_range.2 H)
 exact of_decide_eq_true (Ds z)
theorem xR{v}(h:∀k,k<vs.length->1<=(vs.getD k h7).len/\(vs.getD k h7).len<=1000)(aD:1<=v.len/\v.len<=1000):∀k,k<(vs++[v]).length->1<=((vs++[v]).getD k h7).len/\((vs++[v]).getD k h7).len<=1000:=λk H=>by
 grind
theorem sI{v}(h:∀u∈vs,u.k<18446744073709551616)(aD:v.k<18446744073709551616):∀u∈vs++[v],u.k<18446744073709551616:=λu bd=>by
 grind
theorem A.qaq(h:Zp:=by
 go_region_law
  ((refine step_append_lies _ rfl (.tmp 12) (.tmp 14) 24 rfl B 74 bS (Dg 0 0 0 0 0 0) 6 48 underlying24 hi ch b6 ci rfl xab _ _ (f9 st.vs) (by simp[Act.eval]) (kY aW.o 1) ⟨aa.heap.size,0,none⟩ 1 1 v.cells (by simp[Act.eval]) rfl (Al _ _ _) (Dm v) xab (by unfold maxLen;omega) xaa yaf _ rfl ?_;intro g9 cap9 bn aB a0 bs cr;have bq:=jk a0 a9 aF.o.1 c1;have bZ:=far2 a0 a9 aF.o.1 bC;have ak:=jk a0 f aF.o.2 bh;have az:=jk a0 f aF.o.2 aH;have bF:=jk a0 f aF.o.2 aN;have cg:=jk a0 f aF.o.2 aM;have bE:=jk a0 f aF.o.2 aS;have cl:=jk a0 f aF.o.2 aC))
 all_goals
  have be:=bs.imp id (λe=>Nat.le_of_eq e.symm)
  have i1:=(dE 0 0 aa (.cells #[h0 v.op,h0 v.len,h0 v.a,h0 v.b,h0 v.c,.float .f64 v.k] 74)).trans (ed 0 0 1)
  have j:bn.ownsRow B 74 6 (hZ g9 (N+1) cap9) (N+1) (f9 (st.vs++[v])):=by rw[lL,oS];exact aB
  obtain⟨(a:M _),U⟩:=(S.o.keep i1).vals (eD a0) (by rw[yak,bc.o];rfl) j be
  have bv:M _:=(c.o.keep i1).trans U
  clear U be i1 aB j a0 bs cr bq bZ ak az bF cg bE cl bh aH aN aM aS aC bC c1 aW S c
  generalize bn.setCell ⟨P,1,_⟩ _=L at a bv⊢
  obtain⟨a1,bB,a2',bQ,a3,X,K,a6,ag,ad⟩:=a.o.gs bJ.o
  simp only at K ag ad
  subst K ag
  have bk:M _:=za bB bQ X ad ai.o
  have m:(st.vs++[v]).length=N+1:=by grind
  have l:M _:=λA=>jg A a1 a2' a3 st.ins.length bB (N+1) bQ st.outs.length X xaa
  rw[m]at bk a6
  clear ad
  have aP:=a.o.c0
  have aQ:=a.o.c1
  have aU:=a.o.c2
  cases a6
  cases I:jf (st.vs++[v])
  ·rw[I]at bk bu
   have b:M _:=bu.o.trans (h2 xac)
   have ao:M (∀A,Kept 0 0 _ A->A.cell? _=some _/\A.cell? _=some _/\A.cell? _=some _):=λA k=>⟨(a.o.keep k).c0,(a.o.keep k).c1,(a.o.keep k).c2⟩
   clear I bu
   go_wp2_with (first
    |(go_at_call 66;refine yai bk.o ?_;rintro e aj ⟨rfl,t⟩;obtain⟨bT,bg,a8⟩:=ao.o _ t)
    |(go_at_call 67;refine yai (l.o _) ?_;rintro e ae ⟨rfl,i⟩))
   go_ret
   rw[b.o]
   exact⟨by simp,_,_,_,_,(a.o.keep t).keep i,(bv.o.keep t).keep i⟩
  ·rw[I]at bk bu
   have b:M _:=bu.o.trans (h3 rfl)
   have bX:M (∀A,Kept 0 0 _ A->_):=λA k=>jC (a.o.keep k).c5 (a.o.keep k).c6 (a.o.keep k).fr 5 p (Mst P (.slice a1 st.ins.length bB) (hZ g9 (N+1) cap9) (.slice a3 st.outs.length X) u4) (.inl rfl)
   clear I bu
   go_wp2_with (first
    |(go_at_call 66;refine yai bk.o ?_;rintro e aj ⟨rfl,t⟩)
    |(go_at_call 32;refine yai (bX.o _ t) ?_;rintro e ae ⟨rfl,u⟩))
   go_ret
   rw[b.o]
   exact⟨rfl,u.c5,u.c6,(bv.o.keep t).bad u.chg⟩):Zp:=h
open A in
theorem lF{W P B u1 ap u3 u4 am st}(h:WS W P B u1 ap u3 u4 am st)(g:Gd st)(v)(aD:1<=v.len/\v.len<=1000)(o:v.k<18446744073709551616)(p:Nat):
  Calls prog 36 #[ge P,v.agg,h0 p] W (TrO W P B u1 ap u3 u4 am (eg st v p)):=by
 exact qap
end
section
variable{ins:List Int}{st aG:LSt}{vs0 vs us:List Vl}{js r:List Nat}{a s b x k:Nat}{j ax c:Int}
theorem EF(h:jf vs=false):vs.length<=2000/\dK vs<=50000:=by
 grind[jf]
theorem Gd.put{st}(g:Gd st){v}(aD:okV st.ins (st.vs++[v]) st.vs.length=true)(H:v.k<18446744073709551616)(ab:jf (st.vs++[v])=false):Gd {st with vs:=st.vs++[v]}:=by
 obtain⟨z,J⟩:=EF ab;refine⟨z,J,?_,sI g.k H,g.i,g.o,g.m⟩;rw[List.all_eq_true];intro i hi;have T:=List.mem_range.1 hi;simp only[yak,List.length_singleton]at T;by_cases c:i<st.vs.length
 ·exact vd c (List.all_eq_true.1 g.ok i (List.mem_range.2 c))
 grind
theorem Gd.lenB(g:Gd st){i}(h:i<st.vs.length):1<=dS st i/\dS st i<=1000:=g.len i h
theorem AG(ins vs v)(aC:v.op≠0)(ab:1<=v.len/\v.len<=1000)(ai:jr v=true)(av:∀o∈fy v,0<=o/\o<(vs.length:Int))(e:gO v.op v.len v.c ((fy v).map λo=>(vs.getD o.toNat h7).len)=true):okV ins (vs++[v]) vs.length=true:=by
 have aD:(vs++[v]).getD vs.length h7=v:=by simp_all
 have aR:((fy v).map λo=>((vs++[v]).getD o.toNat h7).len)=((fy v).map λo=>(vs.getD o.toNat h7).len):=by
  apply List.map_congr_left;intro o i;have:=av o i;grind
 grind[okV,lenB,jL]
theorem qb(st)(G:List Nat)(k)(h:k<G.length):mM st (G.take (k+1))=if mM st (G.take k)<dS st (G.getD k 0)then dS st (G.getD k 0)else mM st (G.take k):=by
 unfold mM;rw[yas h,List.foldl_append,yah,yal h];rfl
theorem qZ{st}(g:Gd st)(G:List Nat)(ar:∀i∈G,i<st.vs.length):∀k,k<=G.length->1<=mM st (G.take k)/\mM st (G.take k)<=1000
 |0,_=>by simp_all[mM]
 |k+1,H=>by
  have O:=qZ g _ ar k xaa
  have aR:G.getD k 0∈G:=by grind
  have:=g.lenB (ar _ aR)
  rw[qb _ _ k xaa]
  omega
def qd(js:List Nat)(r:Rs (LSt×List Nat)):Rs (LSt×List Nat):=
 match r with
 |.error f=>.error f
 |.ok (s,ks)=>.ok (s,js++ks)
theorem xS(r):qd [] r=r:=by
 cases r with
 |error f=>rfl
 |ok x=>rfl
theorem j5(h:¬dS st i<n):gE n p st (i::r)=qd [i] (gE n p st r):=by
 rw[gE,h2 h];cases gE n p st r with
 |error f=>rfl
 |ok x=>rfl
theorem kE{bq j}(h:dS st i<n)(aB:eg st (dL 10 n (i:Int) 0 0) p=.ok (bq,j)):gE n p st (i::r)=qd [j] (gE n p bq r):=by
 rw[gE,h3 h,aB];simp only;cases gE n p bq r with
 |error f=>rfl
 |ok x=>rfl
theorem kG{f}(h:dS st i<n)(aB:eg st (dL 10 n (i:Int) 0 0) p=.error f):gE n p st (i::r)=.error f:=by
 rw[gE,h3 h,aB]
theorem nK(a b r):qd a (qd b r)=qd (a++b) r:=by
 cases r<;>grind[qd]
theorem IJ(hi:i<st.vs.length)(z:dS st i=1){n}(V:1<=n/\n<=1000):okV st.ins (st.vs++[dL 10 n (i:Int) 0 0]) st.vs.length=true:=by
 refine AG _ _ _ (show 10≠0 by decide) V (by rfl) ?_ ?_
 ·grind[fy]
 simp_all[fy,dS,cnt,gO]
def GVal(ins:List Int)(vs:List Vl):Prop:=(∀i,i<vs.length->okV ins vs i=true)/\∀v∈vs,v.k<18446744073709551616
def Ln(vs:List Vl)(j n:Int):Prop:=0<=j/\j<(vs.length:Int)/\(vs.getD j.toNat h7).len=n
theorem Ln.app(h:Ln vs j n)(us):Ln (vs++us) j n:=by
 obtain⟨z,J,al⟩:=h;refine⟨z,by grind,?_⟩;grind
theorem ia{vs v}(aK:j=(vs.length:Int))(aD:v.len=n):Ln (vs++[v]) j n:=by
 subst aK;refine⟨by omega,by grind,?_⟩;simp_all
theorem GVal.len(g:GVal ins vs){n}(h:Ln vs j n):1<=n/\n<=1000:=by
 obtain⟨z,J,al⟩:=h;have:=iA (g.1 j.toNat xaa);omega
theorem GVal.push(g:GVal ins vs)(v)(aC:v.op≠0)(ab:1<=v.len/\v.len<=1000)(H:v.k<18446744073709551616)(ai:jr v=true)(av:∀o∈fy v,0<=o/\o<(vs.length:Int))(e:gO v.op v.len v.c ((fy v).map λo=>(vs.getD o.toNat h7).len)=true):GVal ins (vs++[v]):=by
 refine⟨λi hi=>?_,sI g.2 H⟩;rw[yak,List.length_singleton]at hi;by_cases c:i<vs.length
 ·exact vd c (g.1 i c)
 grind[AG]
theorem GVal.p1(g:GVal ins vs){n}(V:1<=n/\n<=1000)(H:k<18446744073709551616):GVal ins (vs++[⟨1,n,0,0,0,k⟩]):=
 g.push _ (by grind) V H (by simp[jr,cnt,lm]) (by intro o h;simp[fy,cnt]at h) (by simp[fy,cnt,gO])
theorem GVal.z(g:GVal ins vs){n}(V:1<=n/\n<=1000):GVal ins (vs++[dL 1 n 0 0 0]):=g.p1 V xab
theorem GVal.two(g:GVal ins vs){n p q}(av:ax=2\/ax=3\/ax=4\/ax=5\/ax=7)(aB:Ln vs p n)(an:Ln vs q n):GVal ins (vs++[dL ax n p q 0]):=by
 have V:=g.len aB;obtain⟨bw,p2,ah⟩:=aB;rw[yah]at ah;obtain⟨bg,a8,bE⟩:=an;rw[yah]at bE;refine g.push _ (by grind) V (by grind) ?_ ?_ ?_
 ·obtain rfl|rfl|rfl|rfl|rfl:=av<;>grind[jr,cnt]
 ·grind[fy]
 obtain rfl|rfl|rfl|rfl|rfl:=av<;>grind[fy,cnt,gO]
theorem GVal.one(g:GVal ins vs){n p}(av:ax=6\/ax=13)(aB:Ln vs p n):GVal ins (vs++[dL ax n p 0 0]):=by
 have V:=g.len aB;obtain⟨bw,p2,ah⟩:=aB;rw[yah]at ah;refine g.push _ (by grind) V (by grind) ?_ ?_ ?_
 ·grind[jr,cnt]
 ·grind[fy]
 obtain rfl|rfl:=av<;>simp[fy,cnt,gO,ah]
theorem GVal.sel{ins vs}(g:GVal ins vs){n d p q}(aT:Ln vs d n)(aB:Ln vs p n)(an:Ln vs q n):GVal ins (vs++[dL 8 n d p q]):=by
 have V:=g.len aB;obtain⟨aW,bA,bs⟩:=aT;rw[yah]at bs;obtain⟨bw,p2,ah⟩:=aB;rw[yah]at ah;obtain⟨bg,a8,bE⟩:=an;rw[yah]at bE;refine g.push _ (by grind) V (by grind) ?_ ?_ ?_
 ·simp[jr,cnt,lm]
 ·grind[fy]
 simp[fy,cnt,gO,bs,ah,bE]
theorem GVal.p9(g:GVal ins vs){l p}(aB:Ln vs p l):GVal ins (vs++[dL 9 1 p 0 0]):=by
 have V:=g.len aB;obtain⟨bw,p2,ah⟩:=aB;rw[yah]at ah;refine g.push _ (by grind) ⟨by grind,by grind⟩ (by grind) ?_ ?_ ?_
 ·simp[jr,cnt,lm]
 ·grind[fy]
 simp[fy,cnt,gO,ah,lenB,V]
theorem GVal.p10(g:GVal ins vs){n p}(V:1<=n/\n<=1000)(aB:Ln vs p 1):GVal ins (vs++[dL 10 n p 0 0]):=by
 obtain⟨bw,p2,ah⟩:=aB;rw[yah]at ah;refine g.push _ (by grind) V (by grind) ?_ ?_ ?_
 ·simp[jr,cnt,lm]
 ·grind[fy]
 simp[fy,cnt,gO,ah]
theorem GVal.p11(g:GVal ins vs){l p}(aB:Ln vs p l)(aj:0<=c/\c<l):GVal ins (vs++[dL 11 1 p 0 c]):=by
 have V:=g.len aB;obtain⟨bw,p2,ah⟩:=aB;rw[yah]at ah;refine g.push _ (by grind) ⟨by grind,by grind⟩ (by grind) ?_ ?_ ?_
 ·simp[jr,cnt,lm]
 ·grind[fy,cnt]
 grind[fy,cnt,gO,lenB,jL]
theorem GVal.p12(g:GVal ins vs){n p}(V:1<=n/\n<=1000)(aB:Ln vs p 1)(aj:0<=c/\c<n):GVal ins (vs++[dL 12 n p 0 c]):=by
 obtain⟨bw,p2,ah⟩:=aB;rw[yah]at ah;refine g.push _ (by grind) V (by grind) ?_ ?_ ?_
 ·simp[jr,cnt,lm]
 ·grind[fy,cnt]
 simp[fy,cnt,gO,ah,jL,aj]
def Put(ins:List Int)(vs:List Vl)(n:Int)(Maa:List Vl×Int):Prop:=GVal ins (vs++Maa.1)/\Ln (vs++Maa.1) Maa.2 n
def vO(ins:List Int)(vs:List Vl)(n:Int)(Maa:List Vl×Int):Prop:=GVal ins (vs++Maa.1)/\(Maa.2=-1\/Ln (vs++Maa.1) Maa.2 n)
theorem Put.o{Maa}(h:Put ins vs n Maa):vO ins vs n Maa:=⟨h.1,.inr h.2⟩
section
variable{ins:List Int}{vs:List Vl}{n r:Int}
theorem EH(g:GVal ins vs)(h:Ln vs r n):Put ins vs n ([],r):=⟨by simpa using g,by simpa using h⟩
theorem B6(g:GVal ins vs):vO ins vs n ([],-1):=⟨by simpa using g,.inl rfl⟩
theorem lH{a}(g:GVal ins (vs++[a]))(h:a.len=n)(ah:r=(vs.length:Int)):Put ins vs n ([a],r):=⟨g,ia (vs:=vs) (v:=a) ah h⟩
theorem put2{a b}(g:GVal ins ((vs++[a])++[b]))(h:b.len=n)(ah:r=((vs.length+1:Nat):Int)):Put ins vs n ([a,b],r):=by
 have J:=ia (vs:=vs++[a]) (v:=b) (j:=r) (by grind) h;rw[List.append_assoc]at g J;exact⟨g,J⟩
theorem B7{a b c}(g:GVal ins (((vs++[a])++[b])++[c]))(h:c.len=n)(ah:r=((vs.length+2:Nat):Int)):Put ins vs n ([a,b,c],r):=by
 have J:=ia (vs:=(vs++[a])++[b]) (v:=c) (j:=r) (by rw[ah];simp) h;simp only[List.append_assoc]at g J;exact⟨g,J⟩
theorem PZ{a b c d}(g:GVal ins ((((vs++[a])++[b])++[c])++[d]))(h:d.len=n)(ah:r=((vs.length+3:Nat):Int)):Put ins vs n ([a,b,c,d],r):=by
 have J:=ia (vs:=((vs++[a])++[b])++[c]) (v:=d) (j:=r) (by rw[ah];simp) h;simp only[List.append_assoc]at g J;exact⟨g,J⟩
end
def jp(vs:List Vl)(j:Int):Int:=(vs.getD j.toNat h7).len
section
variable{ins:List Int}{vs:List Vl}{i:Nat}{v:Vl}
theorem kL(ok:okV ins vs i=true)(e:vs.getD i h7=v)(aC:v.op≠0):gO v.op v.len v.c ((fy v).map λo=>jp vs o)=true/\jr v=true:=by
 unfold okV at ok;rw[e,h2 aC,Bool.and_eq_true,Bool.and_eq_true,Bool.and_eq_true]at ok;exact⟨ok.2.2,ok.1.2⟩
theorem oG(ok:okV ins vs i=true)(hi:i<vs.length)(e:vs.getD i h7=v){q}(an:q<cnt v.op):Ln vs (fld v q) (jp vs (fld v q)):=by
 have h:=kC ok q (by grind);rw[e]at h;exact⟨h.1,by omega,rfl⟩
theorem EI(ok:okV ins vs i=true)(_hi:i<vs.length)(e:vs.getD i h7=v)(av:v.op=2\/v.op=3\/v.op=4\/v.op=5\/v.op=7):cnt v.op=2/\jp vs v.a=v.len/\jp vs v.b=v.len:=by
 have h:=(kL ok e xaa).1;have aj:cnt v.op=2:=by obtain c|c|c|c|c:=av<;>(rw[c];rfl)
 grind[fy,gO]
theorem vP(ok:okV ins vs i=true)(e:vs.getD i h7=v)(av:v.op=6\/v.op=13):cnt v.op=1/\jp vs v.a=v.len/\v.c=0:=by
 grind[kL,cnt,lm,fy,gO,jr]
theorem EJ(ok:okV ins vs i=true)(e:vs.getD i h7=v)(av:v.op=8):cnt v.op=3/\jp vs v.a=v.len/\jp vs v.b=v.len/\jp vs v.c=v.len:=by
 grind[kL,cnt,fy,gO]
theorem OU(ok:okV ins vs i=true)(e:vs.getD i h7=v)(av:v.op=9):cnt v.op=1/\v.len=1/\v.c=0:=by
 obtain⟨h,ai⟩:=kL ok e xaa;grind[cnt,lm,gO,jr]
theorem KQ(ok:okV ins vs i=true)(e:vs.getD i h7=v)(av:v.op=10):cnt v.op=1/\jp vs v.a=1/\v.c=0:=by
 grind[kL,cnt,lm,fy,gO,jr]
theorem KR(ok:okV ins vs i=true)(e:vs.getD i h7=v)(av:v.op=11):cnt v.op=1/\v.len=1/\0<=v.c/\v.c<jp vs v.a:=by
 grind[kL,cnt,fy,gO,jL]
theorem KS(ok:okV ins vs i=true)(e:vs.getD i h7=v)(av:v.op=12):cnt v.op=1/\jp vs v.a=1/\0<=v.c/\v.c<v.len:=by
 grind[kL,cnt,fy,gO,jL]
theorem EK(ok:okV ins vs i=true)(e:vs.getD i h7=v):v.op=0\/(1<=v.op/\v.op<=13):=by
 by_cases aC:v.op=0
 ·exact .inl aC
 have h:=(kL ok e aC).1;grind[gO]
theorem IK(g:GVal ins vs){n p q}(aB:p=-1\/Ln vs p n)(an:q=-1\/Ln vs q n):vO ins vs n (mK n p q vs.length):=by
 unfold mK;by_cases c:p=-1
 ·rw[h3 c];obtain rfl|an:=an
  ·exact B6 g
  exact(EH g an).o
 have f:=aB.resolve_left c;rw[h2 c];by_cases d:q=-1
 ·rw[h3 d];exact(EH g f).o
 rw[h2 d];exact(lH (g.two (.inl rfl) f (an.resolve_left d)) rfl rfl).o
theorem IL(g:GVal ins vs){n p q}(aB:p=-1\/Ln vs p n)(an:q=-1\/Ln vs q n):vO ins vs n (mL n p q vs.length):=by
 unfold mL;by_cases d:q=-1
 ·rw[h3 d];obtain rfl|aB:=aB
  ·exact B6 g
  exact(EH g aB).o
 have e:=an.resolve_left d;rw[h2 d];by_cases c:p=-1
 ·rw[h3 c];exact(lH (g.one (.inl rfl) e) rfl rfl).o
 rw[h2 c];exact(lH (g.two (.inr (.inl rfl)) (aB.resolve_left c) e) rfl rfl).o
theorem EL(g:GVal ins vs){n d p q}(aT:Ln vs d n)(aB:p=-1\/Ln vs p n)(an:q=-1\/Ln vs q n):Put ins vs n (chM n d p q vs.length):=by
 have V:=g.len aT;have aX:=g.z V;have ar:Ln (vs++[dL 1 n 0 0 0]) _ n:=ia rfl rfl;unfold chM;by_cases c:p=-1
 ·rw[h3 c];by_cases e:q=-1
  ·rw[h3 e];exact B7 ((aX.z V).sel ((aT.app _).app _) (ar.app _) (ia xac rfl)) rfl rfl
  rw[h2 e];exact put2 (aX.sel (aT.app _) ar ((an.resolve_left e).app _)) rfl rfl
 have f:=aB.resolve_left c;rw[h2 c];by_cases e:q=-1
 ·rw[h3 e];exact put2 (aX.sel (aT.app _) (f.app _) ar) rfl rfl
 rw[h2 e];exact lH (g.sel aT f (an.resolve_left e)) rfl rfl
end
section
variable{ins:List Int}{vs:List Vl}{i:Nat}{v:Vl}
theorem IN(g:GVal ins vs){p q}(F:Ln vs v.a v.len)(I:Ln vs v.b v.len)(aB:p=-1\/Ln vs p v.len)(an:q=-1\/Ln vs q v.len):vO ins vs v.len (rQ v p q vs.length):=by
 have n:(4:Int)=2\/(4:Int)=3\/(4:Int)=4\/(4:Int)=5\/(4:Int)=7:=xab;unfold rQ;by_cases c:p=-1
 ·rw[h3 c];by_cases d:q=-1
  ·rw[h3 d];exact B6 g
  rw[h2 d];exact(lH (g.two n F (an.resolve_left d)) rfl rfl).o
 have f:=aB.resolve_left c;rw[h2 c];have bz:=g.two n f I;by_cases d:q=-1
 ·rw[h3 d];exact(lH bz rfl rfl).o
 rw[h2 d];have e:=an.resolve_left d;have aJ:=bz.two n (F.app _) (e.app _);exact(B7 (aJ.two (.inl rfl) ((ia rfl rfl).app _) (ia xac rfl)) rfl rfl).o
theorem cG.qcx(h:Zp:=by
 unfold tK;by_cases c:p=-1
 ·rw[h3 c];by_cases d:q=-1
  ·rw[h3 d];exact B6 g
  rw[h2 d];have bz:=g.two n hi (an.resolve_left d);have aJ:=bz.two t (ia rfl rfl) (I.app _);exact(B7 (aJ.one (.inl rfl) (ia xac rfl)) rfl rfl).o
 have f:=aB.resolve_left c;rw[h2 c];have bz:=g.two t f I;by_cases d:q=-1
 ·rw[h3 d];exact(lH bz rfl rfl).o
 rw[h2 d];have aJ:=bz.two n (hi.app _) ((an.resolve_left d).app _);have au:=aJ.two (p:=(vs.length+1:Nat)) t (ia xac rfl) ((I.app _).app _);exact(PZ (au.two aO (((ia rfl rfl).app _).app _) (ia xac rfl)) rfl rfl).o):Zp:=h
open cG in
theorem IP(g:GVal ins vs){p q i}(hi:Ln vs i v.len)(I:Ln vs v.b v.len)(aB:p=-1\/Ln vs p v.len)(an:q=-1\/Ln vs q v.len):vO ins vs v.len (tK i v p q vs.length):=by
 exact qcw
theorem AH(hi:i<vs.length)(e:vs.getD i h7=v):Ln vs (i:Int) v.len:=⟨by omega,by omega,by grind⟩
theorem ME(g:GVal ins vs)(hi:i<vs.length)(e:vs.getD i h7=v)(t:Nat->Int)(az:∀q,q<cnt v.op->t q=-1\/Ln vs (t q) (jp vs (fld v q)))(V:∀q,cnt v.op<=q->t q=-1):vO ins vs v.len (mvM (i:Int) v (t 0) (t 1) (t 2) vs.length):=by
 have ok:=g.1 i hi;have ab:1<=v.len/\v.len<=1000:=by rw[<-e];exact iA ok
 have ai:=AH hi e;unfold mvM;by_cases c0:t 0=-1/\t 1=-1/\t 2=-1
 ·rw[h3 c0];exact B6 g
 rw[h2 c0]
 have key2:v.op=2\/v.op=3\/v.op=4\/v.op=5\/v.op=7->Ln vs _ _/\Ln vs _ _/\(t 0=-1\/Ln vs _ _)/\(t 1=-1\/Ln vs _ _):=λav=>by
  obtain⟨aj,F,I⟩:=EI ok hi e av
  have bZ:=oG ok hi e (q:=0) xaa
  have aS:=oG ok hi e (q:=1) xaa
  have bJ:=az 0 xaa
  have ba:=az 1 xaa
  rw[show fld v 0=v.a from rfl,F]at bZ bJ
  rw[show fld v 1=v.b from rfl,I]at aS ba
  exact⟨bZ,aS,bJ,ba⟩
 have key1:cnt v.op=1->Ln _ _ (jp _ v.a):=λaj=>by
  have ba:=V 1 xaa
  have bu:=V 2 xaa
  exact(az 0 xaa).resolve_left (λc=>c0 ⟨c,ba,bu⟩)
 by_cases J:v.op=2
 ·grind[IK]
 rw[h2 J];by_cases al:v.op=3
 ·grind[IL]
 rw[h2 al];by_cases bw:v.op=4
 ·grind[IN]
 rw[h2 bw];by_cases bL:v.op=5
 ·grind[IP]
 rw[h2 bL];by_cases S:v.op=7
 ·rw[h3 S];obtain⟨aL,y,af,ad⟩:=key2 xaa;have bz:=g.two (.inr (.inl rfl)) aL y;have h:=EL bz (ia rfl rfl) (af.imp id (λh=>h.app _)) (ad.imp id (λh=>h.app _));grind[Put,Put.o]
 rw[h2 S];by_cases m:v.op=8
 ·rw[h3 m];obtain⟨aj,F,I,o⟩:=EJ ok e m;have bZ:=oG ok hi e (q:=0) xaa;have ba:=az 1 xaa;have bu:=az 2 xaa;rw[show fld v 0=v.a from rfl,F]at bZ;rw[show fld v 1=v.b from rfl,I]at ba;rw[show fld v 2=v.c from rfl,o]at bu;by_cases c:t 1=-1/\t 2=-1
  ·rw[h3 c];exact B6 g
  rw[h2 c];exact(EL g bZ ba bu).o
 rw[h2 m];by_cases A:v.op=13
 ·rw[h3 A];obtain⟨aj,F,o⟩:=vP ok e (.inr A);have k:=key1 aj;rw[F]at k;exact(lH (g.two (.inr (.inr (.inl rfl))) k ai) rfl rfl).o
 rw[h2 A];obtain aC|z:=EK ok e
 ·grind[cnt]
 by_cases bf:v.op=6
 ·obtain⟨aj,F,o⟩:=vP ok e (.inl bf);have k:=key1 aj;rw[F]at k;rw[bf,o];exact(lH (g.one (.inl rfl) k) rfl rfl).o
 by_cases u:v.op=9
 ·obtain⟨aj,F,o⟩:=OU ok e u;have k:=key1 aj;rw[u,o,F];exact(lH (g.p9 k) rfl rfl).o
 by_cases f:v.op=10
 ·obtain⟨aj,F,o⟩:=KQ ok e f;have k:=key1 aj;rw[F]at k;rw[f,o];exact(lH (g.p10 ab k) rfl rfl).o
 by_cases B:v.op=11
 ·obtain⟨aj,F,o⟩:=KR ok e B;have k:=key1 aj;rw[B,F];exact(lH (g.p11 k o) rfl rfl).o
 by_cases C:v.op=12
 ·obtain⟨aj,F,o⟩:=KS ok e C;have k:=key1 aj;rw[F]at k;rw[C];exact(lH (g.p12 ab k o) rfl rfl).o
 grind[cnt]
theorem cH.qcx(h:Zp:=by
 have key2:v.op=2\/v.op=3\/v.op=4\/v.op=5\/v.op=7->Ln vs _ _/\Ln vs _ _/\jp _ (fld v k)=v.len/\k<2:=λav=>by
  obtain⟨aj,F,K⟩:=EI ok hi e av
  have bZ:=oG ok hi e (q:=0) xaa
  have aS:=oG ok hi e (q:=1) xaa
  rw[show fld v 0=v.a from rfl,F]at bZ
  rw[show fld v 1=v.b from rfl,K]at aS
  refine⟨bZ,aS,?_,by omega⟩
  obtain rfl|rfl:=(by omega:k=0\/k=1)
  ·exact F
  ·exact K
 have key1:cnt v.op=1->fld v k=v.a:=λaj=>by
  obtain rfl:k=0:=xaa
  rfl
 unfold iR;by_cases J:v.op=2
 ·grind[EH]
 rw[h2 J];by_cases al:v.op=3
 ·rw[h3 al,(key2 xaa).2.2.1];by_cases c:k=0
  ·rw[h3 c];exact EH g aT
  rw[h2 c];exact lH (g.one (.inl rfl) aT) rfl rfl
 rw[h2 al];by_cases bw:v.op=4
 ·obtain⟨aL,y,p,_⟩:=key2 xaa;rw[h3 bw,p];by_cases c:k=0
  ·rw[h3 c];exact lH (g.two n aT y) rfl rfl
  rw[h2 c];exact lH (g.two n aT aL) rfl rfl
 rw[h2 bw];by_cases bL:v.op=5
 ·obtain⟨aL,y,p,_⟩:=key2 xaa;rw[h3 bL,p];by_cases c:k=0
  ·rw[h3 c];exact lH (g.two t aT y) rfl rfl
  rw[h2 c];have bz:=g.two n aT ai;have aJ:=bz.two t (ia rfl rfl) (y.app _);exact B7 (aJ.one (.inl rfl) (ia xac rfl)) rfl rfl
 rw[h2 bL];by_cases bf:v.op=6
 ·obtain⟨aj,F,_⟩:=vP ok e (.inl bf);rw[h3 bf,key1 aj,F];exact lH (g.one (.inl rfl) aT) rfl rfl
 rw[h2 bf];by_cases A:v.op=13
 ·obtain⟨aj,F,_⟩:=vP ok e (.inr A);rw[h3 A,key1 aj,F];exact lH (g.two n aT ai) rfl rfl
 rw[h2 A];by_cases m:v.op=8
 ·obtain⟨aj,F,i1,o⟩:=EJ ok e m;have bZ:=oG ok hi e (q:=0) xaa;rw[show fld v 0=v.a from rfl,F]at bZ;have bx:k≠0:=λc=>by subst c;simp[i8,m]at I
  have p:jp vs (fld v k)=v.len:=by
   obtain rfl|rfl:=(by omega:k=1\/k=2)
   ·exact i1
   exact o
  rw[h3 m,p];have aX:=g.z ab;have ar:Ln (vs++[dL 1 v.len 0 0 0]) _ v.len:=ia rfl rfl;by_cases c:k=1
  ·rw[h3 c];exact put2 (aX.sel (bZ.app _) (aT.app _) ar) rfl rfl
  rw[h2 c];exact put2 (aX.sel (bZ.app _) ar (aT.app _)) rfl rfl
 rw[h2 m];by_cases S:v.op=7
 ·obtain⟨aL,y,p,_⟩:=key2 xaa;rw[h3 S,p];have bz:=g.two aO aL y;have ar:Ln (vs++[dL 3 v.len v.a v.b 0]) _ v.len:=ia rfl rfl;have aJ:=bz.z ab;have b9:Ln ((vs++[dL 3 v.len v.a v.b 0])++[dL 1 v.len 0 0 0]) ((vs.length+1:Nat):Int) v.len:=ia xac rfl;by_cases c:k=0
  ·rw[h3 c];exact B7 (aJ.sel (ar.app _) ((aT.app _).app _) b9) rfl rfl
  rw[h2 c];exact B7 (aJ.sel (ar.app _) b9 ((aT.app _).app _)) rfl rfl
 rw[h2 S];have l:cnt v.op=1->1<=jp vs _/\jp _ v.a<=1000:=λaj=>g.len (oG ok hi e (q:=0) xaa);by_cases u:v.op=9
 ·obtain⟨aj,F,_⟩:=OU ok e u;rw[h3 u,key1 aj];rw[F]at aT;exact lH (g.p10 (l aj) aT) rfl rfl
 rw[h2 u];by_cases f:v.op=10
 ·obtain⟨aj,F,_⟩:=KQ ok e f;rw[h3 f,key1 aj,F];exact lH (g.p9 aT) rfl rfl
 rw[h2 f];by_cases B:v.op=11
 ·obtain⟨aj,F,o⟩:=KR ok e B;rw[h3 B,key1 aj];rw[F]at aT;exact lH (g.p12 (l aj) aT o) rfl rfl
 rw[h2 B];obtain aC|z:=EK ok e
 ·grind[cnt]
 by_cases C:v.op=12
 ·obtain⟨aj,F,o⟩:=KS ok e C;rw[key1 aj,F];exact lH (g.p11 aT o) rfl rfl
 grind[cnt]):Zp:=h
open cH in
theorem IQ(g:GVal ins vs)(hi:i<vs.length)(e:vs.getD i h7=v){k}(H:k<cnt v.op)(I:i8 v k=true){d}(aT:Ln vs d v.len):Put ins vs (jp vs (fld v k)) (iR (i:Int) v (jp vs v.a) k d vs.length):=by
 have ok:=g.1 i hi;have ab:1<=v.len/\v.len<=1000:=by rw[<-e];exact iA ok
 have ai:=AH hi e;exact qcw
end
structure GIv(ins:List Int)(vs0:List Vl)(st:List Vl×List Int):Prop where
 g:GVal ins st.1
 p:Pre vs0 st.1
 l:st.2.length=vs0.length
 m:∀q,q<vs0.length->st.2.getD q 0=-1\/Ln st.1 (st.2.getD q 0) (jp vs0 (q:Int))
theorem iN(vs)(q:Nat):jp vs (q:Int)=(vs.getD q h7).len:=by unfold jp;grind
theorem sJ(p:Pre vs0 us)(aC:0<=j)(z:j<(vs0.length:Int)):jp us j=jp vs0 j:=by
 unfold jp;rw[(p.at_ (j:=j.toNat) xaa).1]
theorem B8{l:List Int}{x}(h:i<l.length):(l.set i x).getD i 0=x:=by
 simp_all
theorem B9{l:List Int}{q x}(h:i≠q):(l.set i x).getD q 0=l.getD q 0:=by
 simp_all
theorem GIv.put{ins vs0 st}(h:GIv ins vs0 st){i}(hi:i<vs0.length){Maa}(bH:vO ins st.1 (jp vs0 (i:Int)) Maa):GIv ins vs0 (st.1++Maa.1,st.2.set i Maa.2):=by
 refine⟨bH.1,h.p.app,by rw[List.length_set];exact h.l,λq an=>?_⟩;by_cases c:i=q
 ·subst c;simp only;rw[B8 (it h.l hi)];exact bH.2
 simp only;rw[B9 c];exact(h.m q an).imp id (λx=>x.app _)
theorem uu(g:GVal ins (vs0++us))(ar:x<vs0.length){t}(az:Ln (vs0++us) t (jp vs0 (x:Int))):GIv ins vs0 (vs0++us,(List.replicate vs0.length (-1)).set x t):=by
 refine⟨g,⟨_,rfl⟩,by grind,λq an=>?_⟩;grind
theorem xT{ins vs0}(g:GVal ins vs0){x t:Nat}(az:Ln vs0 (t:Int) (jp vs0 (x:Int))):∀k,x+k<vs0.length->GIv ins vs0 (jst vs0 x t k)
 |0,H=>by
  have h:=uu (us:=[]) (ins:=ins) (vs0:=vs0) (x:=x) (t:=(t:Int)) (by simpa using g) xaa (by simpa using az)
  rw[List.append_nil]at h
  exact h
 |k+1,H=>by
  have O:=xT g az k xaa
  have hi:x+1+k<vs0.length:=xaa
  have e:=(O.p.at_ hi).1
  have bH:=ME O.g (O.p.at_ hi).2 e (ovs (vs0.getD (x+1+k) h7) (jst vs0 x t k).2 (cnt (vs0.getD (x+1+k) h7).op)) (λq an=>?_) (λq an=>by unfold ovs;omega)
  ·rw[<-iN]at bH
   exact O.put hi bH
  ·have av:=kC (g.1 _ hi) q an
   unfold ovs
   rw[h3 an,sJ O.p av.1 xaa]
   have aR:=O.m (fld (vs0.getD (x+1+k) h7) q).toNat xaa
   grind
theorem lh(g:GVal ins vs){t:Nat}(ai:s<vs.length)(ar:x<vs.length)(az:Ln vs (t:Int) (jp vs (x:Int))):GVal ins (i9 vs s x t).1/\Ln (i9 vs s x t).1 (i9 vs s x t).2 (jp vs (s:Int))/\Pre vs (i9 vs s x t).1:=by
 have h:=xT g az (s-x) xaa;have ab:=iA (g.1 s ai);unfold i9;by_cases c:(jst vs x t (s-x)).2.getD s 0=-1
 ·rw[h3 c];exact⟨h.g.z ab,ia rfl (iN _ _).symm,h.p.app⟩
 rw[h2 c];exact⟨h.g,(h.m s ai).resolve_left c,h.p⟩
theorem IT(g:GVal ins vs0){act i}(hi:i<vs0.length)(H:k<cnt (vs0.getD i h7).op){st}(h:GIv ins vs0 st)(aT:st.2.getD i 0≠-1):GIv ins vs0 (gkM vs0 act i k st)/\(gkM vs0 act i k st).2.getD i 0=st.2.getD i 0:=by
 unfold gkM;by_cases c:act.getD (fld (vs0.getD i h7) k).toNat false=true/\i8 (vs0.getD i h7) k=true
 ·rw[h3 c];have av:=kC (g.1 i hi) k H;have aC:=kC (g.1 i hi) 0 xaa;have e:=(h.p.at_ hi).1;have i1:=(h.m i hi).resolve_left aT;rw[iN]at i1;have F:=IQ h.g (h.p.at_ hi).2 e H c.2 i1;rw[sJ h.p av.1 xaa,show jp st.1 _=laM _ i from sJ h.p aC.1 (by have:(vs0.getD i _).a<i:=aC.2;omega)]at F;generalize iR _ _ _ k _ _=Maa at F;generalize fM:fld _ k=a5 at av F;obtain⟨o,rfl⟩:=Int.eq_ofNat_of_zero_le av.1;have g2:o<i:=xaa;rw[Int.toNat_natCast];unfold jN;simp only;by_cases d:st.2.getD o 0=-1
  ·rw[h3 d];refine⟨h.put xaa F.o,?_⟩;grind
  rw[h2 d];have aK:=((h.m o xaa).resolve_left d).app Maa.1;have aJ:=F.1.two (.inl rfl) aK F.2
  have J:vO ins st.1 (jp vs0 o) (Maa.1++[dL 2 (jp vs0 o) (st.2.getD o 0) Maa.2 0],((st.1++Maa.1).length:Int)):=by
   refine⟨by grind,.inr ?_⟩;simp only;rw[<-List.append_assoc];exact ia rfl rfl
  have al:=h.put xaa J;grind[iN]
 grind
theorem uv{ins vs0}(g:GVal ins vs0){act i}(hi:i<vs0.length){st}(h:GIv ins vs0 st)(aT:st.2.getD i 0≠-1):∀k,k<=cnt (vs0.getD i h7).op->GIv ins vs0 (iX vs0 act i st k)/\(iX vs0 act i st k).2.getD i 0=st.2.getD i 0
 |0,_=>⟨h,rfl⟩
 |k+1,H=>by
  obtain⟨z,J⟩:=uv g hi h aT k xaa
  obtain⟨al,bw⟩:=IT g (act:=act) hi H z (it J aT)
  exact⟨al,bw.trans J⟩
theorem xU{ins vs0}(g:GVal ins vs0){act s}(ai:s<vs0.length)(z:(vs0.getD s h7).len=1):∀j,GIv ins vs0 (gdn vs0 act s j)
 |0=>uu (g.p1 ⟨by decide,by decide⟩ xab) ai (ia rfl (by rw[iN,z]))
 |j+1=>by
  have O:=xU (act:=act) g ai z j
  grind[giM,gdn,uv]
theorem sK(g:GVal ins vs)(ai:s<vs.length)(ar:x<vs.length)(z:(vs.getD s h7).len=1):GVal ins (grM vs s x).1/\Ln (grM vs s x).1 (grM vs s x).2 (jp vs (x:Int))/\Pre vs (grM vs s x).1:=by
 have ab:=iA (g.1 x ar);unfold grM;by_cases c:(gL vs x (s-x)).getD s false=true
 ·rw[h3 c];unfold qA;rw[rY _ _ _ _ _ yac];have h:=xU (act:=gL vs x (s-x)) g ai z (s-x);unfold BI;by_cases d:(gdn vs (gL vs x (s-x)) s (s-x)).2.getD x 0=-1
  ·rw[h3 d];exact⟨h.g.z ab,ia rfl (iN _ _).symm,h.p.app⟩
  rw[h2 d];exact⟨h.g,(h.m x ar).resolve_left d,h.p⟩
 rw[h2 c];exact⟨g.z ab,ia rfl (iN _ _).symm,⟨_,rfl⟩⟩
theorem Gd.v(g:Gd st):GVal st.ins st.vs:=⟨λi hi=>List.all_eq_true.1 g.ok i (List.mem_range.2 hi),g.k⟩
theorem Gd.with(g:Gd st)(h:GVal st.ins vs)(ab:jf vs=false):Gd {st with vs:=vs}:=by
 obtain⟨z,J⟩:=EF ab;exact⟨z,J,List.all_eq_true.2 (λi hi=>h.1 i (List.mem_range.1 hi)),h.2,g.i,g.o,g.m⟩
structure Gw(st st':LSt):Prop where
 g:Gd st'
 n:st.vs.length<=st'.vs.length
 l:∀i,i<st.vs.length->dS st' i=dS st i
 i:st'.ins=st.ins
 o:st'.outs=st.outs
 m:st'.names=st.names
theorem Gw.refl(g:Gd st):Gw st st:=⟨g,yac,λ_ _=>rfl,rfl,rfl,rfl⟩
theorem Gw.trans{a b c}(h:Gw a b)(k:Gw b c):Gw a c:=
 ⟨k.g,yan h.n k.n,λi hi=>(k.l i (yaj hi h.n)).trans (h.l i hi),k.i.trans h.i,k.o.trans h.o,k.m.trans h.m⟩
def RsG(st:LSt)(r:Rs (LSt×Nat)):Prop:=∀st' v,r=.ok (st',v)->Gw st st'/\v<st'.vs.length
theorem f8{f}:RsG st (.error f):=λ_ _ h=>by cases h
theorem zy{v}(h:Gw st aG)(aD:v<aG.vs.length):RsG st (.ok (aG,v)):=λ_ _ e=>by grind
theorem RsG.back{a b r}(h:Gw a b)(k:RsG b r):RsG a r:=λs v e=>⟨h.trans (k s v e).1,(k s v e).2⟩
theorem EM(p:Pre st.vs vs){i}(hi:i<st.vs.length):dS {st with vs:=vs} i=dS st i:=by
 unfold dS;simp only;rw[(p.at_ hi).1]
theorem EN(g:Gd st)(h:GVal st.ins vs)(ab:jf vs=false)(p:Pre st.vs vs):Gw st {st with vs:=vs}:=
 ⟨g.with h ab,by obtain⟨r,rfl⟩:=p;simp,λi hi=>EM p hi,rfl,rfl,rfl⟩
theorem lZ(g:Gd st){v}(h:GVal st.ins (st.vs++[v])){p j}(e:eg st v p=.ok (aG,j)):Gw st aG/\j<aG.vs.length/\dS aG j=v.len:=by
 unfold eg at e;cases ab:jf (st.vs++[v]) with
 |true=>grind
 |false=>
  rw[ab,h2 xac]at e;cases e;have V:=ia (vs:=st.vs) (v:=v) rfl rfl;exact⟨EN g h ab ⟨_,rfl⟩,by simp,by have:=V.2.2;rw[Int.toNat_natCast]at this;exact this⟩
theorem iO(g:Gd st){v}(h:GVal st.ins (st.vs++[v])){p}:RsG st (eg st v p):=λ_ _ e=>⟨(lZ g h e).1,(lZ g h e).2.1⟩
theorem oH(g:Gd st){m n}(h:GVal st.ins m.1/\Ln m.1 m.2 n/\Pre st.vs m.1){p}:RsG st (ft st m p):=by
 unfold ft;cases ab:jf m.1 with
 |true=>rw[h3 rfl];exact f8
 |false=>
  rw[h2 xac];refine zy (EN g h.1 ab h.2.2) ?_;have:=h.2.1.1;have:=h.2.1.2.1;grind
theorem iP(h:i<st.vs.length):Ln st.vs (i:Int) (dS st i):=⟨by omega,by omega,i0 Int.toNat_natCast⟩
theorem qe(n p)(V:1<=n/\n<=1000):∀(G:List Nat) (st:LSt),Gd st->(∀i∈G,i<st.vs.length/\(dS st i=n\/dS st i=1))->∀aG js,gE n p st G=.ok (aG,js)->Gw st aG/\js.length=G.length/\∀j∈js,j<aG.vs.length/\dS aG j=n
 |[],st,g,_,aG,js,e=>by
  cases e<;>grind[Gw.refl]
 |i::r,st,g,ar,aG,js,e=>by
  have hi:=ar i (List.mem_cons_self ..)
  by_cases c:dS st i<n
  ·have z:dS st i=1:=xaa
   cases aB:eg st (dL 10 n (i:Int) 0 0) p with
   |error f=>rw[kG c aB]at e;cases e
   |ok x=>
    obtain⟨ak,j⟩:=x
    obtain⟨aa,Z,ao⟩:=lZ g (g.v.p10 V (by rw[<-z];exact iP hi.1)) aB
    rw[kE c aB]at e
    cases bi:gE n p ak r with
    |error f=>rw[bi]at e;cases e
    |ok y=>
     obtain⟨az,O⟩:=y
     rw[bi]at e
     cases e
     obtain⟨af,ad,a5⟩:=qe n p V r _ aa.g (λq an=>by
      have h:=ar q (h5 _ an)
      rw[aa.l q h.1]
      exact⟨yaj h.1 aa.n,h.2⟩) _ _ bi
     refine⟨aa.trans af,by simp[ad],λq an=>?_⟩
     obtain rfl|an:=List.mem_cons.1 an
     ·exact⟨yaj Z af.n,(af.l q Z).trans ao⟩
     ·exact a5 q an
  ·have z:dS st i=n:=xaa
   rw[j5 c]at e
   cases bi:gE n p st r with
   |error f=>rw[bi]at e;cases e
   |ok y=>
    obtain⟨az,O⟩:=y
    rw[bi]at e
    cases e
    obtain⟨af,ad,a5⟩:=qe n p V r _ g (λq an=>ar q (h5 _ an)) _ _ bi
    refine⟨af,by simp[ad],λq an=>?_⟩
    obtain rfl|an:=List.mem_cons.1 an
    ·exact⟨yaj hi.1 af.n,(af.l q hi.1).trans z⟩
    ·exact a5 q an
theorem jO(g:Gd st)(G p)(ar:∀i∈G,i<st.vs.length)(e:im st G p=.ok (aG,js)):Gw st aG/\js.length=G.length/\∃n,∀j∈js,j<aG.vs.length/\dS aG j=n:=by
 unfold im at e;by_cases c:G.all (λi=>dS st i==mM st G||dS st i==1)=true
 ·rw[h3 c]at e;have I:=qZ g _ ar _ yac;rw[List.take_length]at I;obtain⟨z,J,al⟩:=qe _ p I _ _ g (λi hi=>⟨ar i hi,by simp_all⟩) _ _ e;exact⟨z,J,_,al⟩
 grind
theorem j6(h:k<js.length):js.getD k 0∈js:=by
 simp_all
theorem EO{s}:lw s=2\/lw s=3\/lw s=4\/lw s=5\/lw s=7:=by
 grind[lw]
theorem bM.qch(h:Zp:=by
 have ar:=iP bZ.1;have b9:=iP aS.1;rw[aS.2,<-bZ.2]at b9;exact RsG.back z (iO z.g (z.g.v.two EO ar b9))):Zp:=h
open bM in
theorem AI(g:Gd st){o}(F:a<st.vs.length)(I:b<st.vs.length):RsG st (lz st o a b):=by
 unfold lz;cases bi:im st [a,b] o.pos with
 |error f=>exact f8
 |ok x=>
  exact qcg
theorem bN.qch(h:Zp:=by
 have ar:=iP bZ.1;have b9:=iP aS.1;rw[aS.2,<-bZ.2]at b9;simp only;by_cases c:k.sym=l8
 ·rw[h3 c];exact RsG.back z (iO z.g (z.g.v.two (.inr (.inr (.inr (.inr rfl)))) ar b9))
 rw[h2 c];cases aB:eg az (dL 4 (dS az (f.getD 0 0)) (f.getD 0 0:Nat) (f.getD 1 0:Nat) 0) k.pos with
 |error f=>exact f8
 |ok x=>
  obtain⟨bF,j⟩:=x;obtain⟨aa,Z,ao⟩:=lZ z.g (z.g.v.two (.inr (.inr (.inl rfl))) ar b9) aB;exact RsG.back (z.trans aa) (iO aa.g (aa.g.v.p9 (iP Z)))):Zp:=h
open bN in
theorem xV(g:Gd st)(k)(F:a<st.vs.length)(I:b<st.vs.length):RsG st (kS st k a b):=by
 unfold kS;cases bi:im st [a,b] k.pos with
 |error f=>exact f8
 |ok x=>
  exact qcg
theorem bO.qch(h:Zp:=by
 have bO:=al _ (j6 (k:=2) (by rw[J];simp));have ar:=iP bZ.1;have b9:=iP aS.1;have cl:=iP bO.1;rw[aS.2,<-bZ.2]at b9;rw[bO.2,<-bZ.2]at cl;exact RsG.back z (iO z.g (z.g.v.sel ar b9 cl))):Zp:=h
open bO in
theorem AJ(g:Gd st){k c}(F:a<st.vs.length)(I:b<st.vs.length)(aj:c<st.vs.length):RsG st (po st k a b c):=by
 unfold po;cases bi:im st [a,b,c] k.pos with
 |error f=>exact f8
 |ok x=>
  exact qcg
theorem vQ{l}(h:Dgs l):0<=ek l:=by
 have:=lY h yac;grind
theorem sL(g:Gd st){k}(F:a<st.vs.length){n}(bo:Dgs n.text):RsG st (ju st k a n):=by
 have aC:=vQ bo;have la:=iP F;unfold ju;by_cases c:k.sym=lO
 ·rw[h3 c];by_cases d:dS st a<=ek n.text
  ·rw[h3 d];exact f8
  rw[h2 d];exact iO g (g.v.p11 la ⟨aC,by omega⟩)
 rw[h2 c];by_cases d:dS st a≠1
 ·rw[h3 d];exact f8
 rw[h2 d];by_cases e:ek n.text<1\/1000<ek n.text
 ·rw[h3 e];exact f8
 rw[h2 e];rw[Decidable.not_not.1 d]at la;exact iO g (g.v.p10 ⟨by omega,by omega⟩ la)
theorem sM(g:Gd st){k}(F:a<st.vs.length){i n}(bo:Dgs i.text):RsG st (jK st k a i n):=by
 have aC:=vQ bo;have la:=iP F;unfold jK;by_cases d:dS st a≠1
 ·rw[h3 d];exact f8
 rw[h2 d];by_cases e:ek n.text<1\/1000<ek n.text
 ·rw[h3 e];exact f8
 rw[h2 e];by_cases q:ek n.text<=ek i.text
 ·rw[h3 q];exact f8
 rw[h2 q];rw[Decidable.not_not.1 d]at la;exact iO g (g.v.p12 ⟨by omega,by omega⟩ la ⟨aC,by omega⟩)
theorem xW(g:Gd st)(k)(F:a<st.vs.length)(ar:x<st.vs.length):RsG st (mg st k a x):=by
 unfold mg;by_cases d:dS st a≠1
 ·rw[h3 d];exact f8
 rw[h2 d];exact oH g (sK g.v F ar (Decidable.not_not.1 d))
theorem AK(g:Gd st)(k){d}(F:a<st.vs.length)(ar:x<st.vs.length)(aT:d<st.vs.length):RsG st (lX st k a x d):=by
 have d5:=g.lenB ar;have bd:=iP aT;unfold lX;by_cases c:dS st d=1/\1<dS st x
 ·rw[h3 c];rw[c.1]at bd;cases aB:eg st (dL 10 (dS st x) (d:Int) 0 0) k.pos with
  |error f=>exact f8
  |ok y=>
   obtain⟨az,bA⟩:=y;obtain⟨aa,Z,ao⟩:=lZ g (g.v.p10 d5 bd) aB;refine RsG.back aa (oH aa.g (lh aa.g.v (yaj F aa.n) (yaj ar aa.n) ?_));exact qdi
 rw[h2 c];by_cases e:dS st d≠dS st x
 ·rw[h3 e];exact f8
 rw[h2 e];refine oH g (lh g.v F ar ?_);grind[iN,dS]
