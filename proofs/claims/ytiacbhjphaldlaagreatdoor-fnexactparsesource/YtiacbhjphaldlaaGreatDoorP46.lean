import Derived.Test.YtiacbhjphaldlaaGreatDoorP30
namespace Go.Proofs.Z
variable{b g N a bv cap m}
variable{Zp:Prop}
open Tryz Go.RowKit Flt
set_option maxRecDepth 1000000
set_option maxHeartbeats 0
section
attribute[local go_sem] dI dG dF gh gj gn mkF
variable{w A ao:World}{n:Nat}{ts us:List Tok}{sl v:Value}{s:List UInt8}{vs:List Value}{es:List Ex}{S:Nat->Prop}{e:Ex}
theorem ow{E}(f:Ps E w ts):Calls prog 48 #[ge E.P] w λe D=>e=.returned (tkV (hdP E.t.length ts))/\Kept 0 0 w D:=by
 obtain⟨i,h⟩:=f;exact KP h
theorem yn{E k}(f:Ps E w (k::us))(H:k.sym≠[]):Calls prog 79 #[ge E.P] w λe D=>e=.returned (tkV (cvT k))/\Ps E D us/\Ch E w D:=by
 obtain⟨i,h⟩:=f;exact OT h H
theorem bQ.qcj(h:Zp:=by
 rw[bS.o];exact⟨rfl,rfl,ad⟩):Zp:=h
open bQ in
theorem rp{E}(f:Ps E w ts):Calls prog 81 #[ge E.P] w λe D=>e=Thr 2 (vL E.t.length ts:Nat)/\Kept 0 0 w D:=by
 have bu:M _:=ow f;have bS:M ((hdP _ ts).at_=vL E.t.length _):=OS;generalize hdP _ _=k at bu bS;generalize vL _ _=q at bS⊢;clear f;go_enter func81,ntmps81;go_wp2_with (go_at_call 48;refine yai bu.o ?_;rintro e Z ⟨rfl,ad⟩;unfold tkV);exact qci
theorem JO{E Z}(f:Ps E w ts){T}(k:Kept 0 0 (w.alloc (.cells #[h0 0,.string ⟨#[]⟩,h0 0] T)) Z)(c:Ch E Z ao):ao.cell? ⟨w.heap.size,0,none⟩=some (h0 0)/\ao.cell? ⟨w.heap.size,1,none⟩=some (.string ⟨#[]⟩)/\ao.cell? ⟨w.heap.size,2,none⟩=some (h0 0)/\ao.frozen? ⟨w.heap.size,0,none⟩=false/\ao.frozen? ⟨w.heap.size,1,none⟩=false/\ao.frozen? ⟨w.heap.size,2,none⟩=false/\w.heap.size<ao.heap.size:=by
 have h:=f.nw.1;obtain⟨aB,ai,am⟩:=eo w _ _ (((k.chg).andThen c:Ch E _ _)) (λe=>by omega);simp_all
theorem JP{E bh}(ar:bh=w.heap.size)(bb:E.N<=bh)(f:Ps E ao us)(c:Ch E w ao)(x y aX)(aC:(ao.cell? ⟨bh,0,none⟩).isSome=true)(z:(ao.cell? ⟨bh,1,none⟩).isSome=true)(J:(ao.cell? ⟨bh,2,none⟩).isSome=true)(I:bh<ao.heap.size):
  ∃a7,((ao.setCell ⟨bh,0,none⟩ x).setCell ⟨bh,1,none⟩ y).setCell ⟨bh,2,none⟩ aX=a7/\a7.cell? ⟨bh,0,none⟩=some x/\a7.cell? ⟨bh,1,none⟩=some y/\a7.cell? ⟨bh,2,none⟩=some aX/\Ps E a7 us/\Ch E w a7:=by
 obtain⟨cc,aW,bA,a,aj⟩:=xP x y aX aC z J I;exact⟨_,rfl,cc,aW,bA,f.far aj (λb e=>by omega),c.new aj (λb h e=>by omega)⟩
theorem S.qay(h:Zp:=by
 refine yax (v:=tkV (cvT k)) (by simp[results,results97,go_sem,tkV,cc,aW,bA]) rfl ?_;exact .inl ⟨[k],_,_,rfl,rfl,bC.o,o,a,⟨k,rfl,H,rfl⟩⟩):Zp:=h
theorem S.qfq(h:Zp:=by
 have aG:(cvT k).kind=i1:=B.2 c;have bk:M (Ps E w _):=f;clear B f aa ai;subst aG;go_enter func97,ntmps97;exact qax):Zp:=h
open S in
theorem jW{E}(f:Ps E w ts){i1}(ai:(i1=2/\s=eu)\/(i1=4/\s=fx)):Calls prog 97 #[ge E.P,h0 i1] w (Ot E w ts [s] (GT s)):=by
 have aa:∀k∈ts,TkC k:=by obtain⟨i,h⟩:=f;exact h.cl
 have B:(hdP E.t.length ts).kind=i1↔hdS ts=s:=by grind[vN]
 have aB:gC s=false:=by obtain⟨_,rfl⟩|⟨_,rfl⟩:=ai<;>decide
 have cd:s≠pV/\s≠[]:=by obtain⟨_,rfl⟩|⟨_,rfl⟩:=ai<;>decide
 have bu:M (∀W,Kept 0 0 w W->_):=λW ae=>ow (f.keep ae);by_cases c:hdS ts=s
 ·exact qfp
 have aF:M (∀W,Kept 0 0 w W->_):=λW ae=>rp (f.keep ae);have bC:M (∀r,dT E.t.length _ ([s]++r)=(vL _ _:Int)):=λr=>lD aB c r;have aG:¬(hdP _ _).kind=i1:=λh=>c (B.1 h);clear B f aa ai;go_enter func97,ntmps97;exact xde
theorem T.qay(h:Zp:=by
 refine yax (v:=tkV (cvT k)) (by simp[results,results82,go_sem,tkV,cc,aW,bA]) rfl ?_;exact .inl ⟨[k],_,_,rfl,rfl,bC.o,o,a,⟨k,rfl,H,rfl⟩⟩):Zp:=h
theorem T.qfq(h:Zp:=by
 have aG:(cvT k).text=s:=B.2 c;have bk:M (Ps E w _):=f;clear B f aa ai;subst aG;go_enter func82,ntmps82;exact qax):Zp:=h
open T in
theorem eX{E}(f:Ps E w ts)(ai:s∈mh):Calls prog 82 #[ge E.P,dJ s] w (Ot E w ts [s] (GT s)):=by
 have aa:∀k∈ts,TkC k:=by obtain⟨i,h⟩:=f;exact h.cl
 have B:(hdP E.t.length _).text=s↔hdS _=s:=kU aa ai;have aB:gC s=false:=nE s ai;have cd:s≠pV/\s≠[]:=⟨(jR s ai).2.2.2.2,(jR s ai).1⟩
 have bu:M (∀W,Kept 0 0 w W->_):=λW ae=>ow (f.keep ae);by_cases c:hdS ts=s
 ·exact qfp
 have aF:M (∀W,Kept 0 0 w W->_):=λW ae=>rp (f.keep ae);have bC:M (∀r,dT E.t.length _ ([s]++r)=(vL _ _:Int)):=λr=>lD aB c r;have aG:((hdP _ _).text==s)=false:=yav (λh=>c (B.1 h));clear B f aa ai;go_enter func82,ntmps82;exact xde
theorem Ot.bad{E aa D T st st2}{p:Nat}(z:∀r,dT E.t.length ts (st++r)=dT E.t.length T (st2++r))(c1:Ch E w aa)(J:∀r,dT E.t.length T (st2++r)=(p:Int))(c2:Ch E aa D):Ot E w ts st bv (Thr 2 p) D:=.inr ⟨p,rfl,λr=>(z r).trans (J r),c1.andThen c2⟩
theorem O8{E}(f:Ps E w ts):Calls prog 99 #[ge E.P] w (Ot E w ts [eu] (GT eu)):=by
 have bW:M (∀W,Kept 0 0 w W->_):=λW ae=>jW (f.keep ae) (.inl ⟨rfl,rfl⟩);have bk:M (Ps E w _):=f;have an:M _:=dE 0 0 w;have aw:M (∀ao,Ch E _ ao->_):=λao c=>JO (T:=84) f ib c;have bb:=f.nw.2;clear f;go_enter func99,ntmps99;go_wp2_with (go_at_call 97;refine yai (bW.o _ (an.o _)) ?_;rintro e ao (⟨us,T,v,rfl,af,X,C,ak,k,rfl,H,rfl⟩|⟨p,rfl,X,ak⟩);rotate_left;exact h1 rfl (Ot.bad (λr=>rfl) (an.o _).chg X.o ak);obtain⟨bK,L,bi,bZ,aS,bO,am⟩:=aw.o _ ak;unfold tkV);obtain⟨a7,b2,cc,aW,bA,o,a⟩:=JP rfl bb C (((an.o _).chg).andThen ak) (h0 (cvT k).kind) (dJ (cvT k).text) (h0 ((cvT k).at_:Int)) (i0 bK) (i0 L) (i0 bi) am;rw[b2];refine yax (v:=tkV (cvT k)) (by simp[results,results99,go_sem,tkV,cc,aW,bA]) rfl ?_;exact .inl ⟨_,_,_,rfl,af,X,o,a,⟨k,rfl,H,rfl⟩⟩
def GF(s:List UInt8)(us:List Tok)(v:Value)(_:World):Prop:=∃c k,us=[c,k]/\c.sym=[44]/\k.sym=s/\v=tkV (cvT k)
theorem nh{E}(f:Ps E w ts){i1}(ai:(i1=2/\s=eu)\/(i1=4/\s=fx)):Calls prog 130 #[ge E.P,h0 i1] w (Ot E w ts [[44],s] (GF s)):=by
 have O:M (∀W,Kept 0 0 w W->_):=λW ae=>eX (f.keep ae) (s:=[44]) xab;have bW:M _:=λW us g=>jW (E:=E) (w:=W) (ts:=us) g ai;have an:M _:=dE 0 0 w;have aw:M (∀ao,Ch E _ ao->_):=λao c=>JO (T:=84) f ib c;have bb:=f.nw.2;clear f ai;go_enter func130,ntmps130;go_upto_region 2 with (go_at_call 82;refine yai (O.o _ (an.o _)) ?_;rintro e Z (⟨us,T,v,rfl,af,X,C,ak,k,rfl,H,rfl⟩|⟨p,rfl,X,ak⟩);rotate_left;exact h1 rfl (Ot.bad (λr=>rfl) (an.o _).chg (λr=>X.o ([s]++r)) ak));have bv:M (Ch E w _):=((an.o _).chg).andThen ak;have b:=Q ak;clear ak;go_wp2_with (go_at_call 97;refine yai (bW.o _ _ C) ?_;rintro e ao (⟨P,U,aN,rfl,h,aL,l,t,ad,rfl,bc,rfl⟩|⟨p,rfl,aL,t⟩);rotate_left;exact h1 rfl (Ot.bad (λr=>X.o ([s]++r)) bv.o aL.o t);obtain⟨bK,L,bi,bZ,aS,bO,am⟩:=aw.o _ (b.o.andThen t);unfold tkV);obtain⟨a7,b2,cc,aW,bA,o,a⟩:=JP rfl bb l (bv.o.andThen t) (h0 (cvT ad).kind) (dJ (cvT ad).text) (h0 ((cvT ad).at_:Int)) (i0 bK) (i0 L) (i0 bi) am;rw[b2];refine yax (v:=tkV (cvT ad)) (by simp[results,results130,go_sem,tkV,cc,aW,bA]) rfl ?_;exact .inl ⟨_,_,_,rfl,by show _=_;rw[af.o,h.o];rfl,λr=>(X.o _).trans (aL.o r),o,a,⟨k,_,rfl,H,bc,rfl⟩⟩
def XC(E:Pe)(f:FuncId)(st:List (List UInt8))(l:Nat)(n:Nat):Prop:=∀W ts,Ps E W ts->ts.length<n->Calls prog f #[.pointer (some ⟨E.P,0,none⟩)] W (Ot E W ts st (GNd W l))
theorem wo(W:World)(n G)(h:n<=W.heap.size)(ab:G.length<=100):Rw (W.alloc (.cells G.toArray 134)) (Fr n) (hZ W.heap.size G.length G.length) G:=by
 refine⟨⟨by simp,.inr ⟨_,_,G.toArray,rfl,yad,?_,yac,by unfold maxLen;omega,by simp,by simp⟩⟩,λb e=>?_⟩
 ·simp[World.alloc,-World.alloc_eq]
 cases e;exact h
theorem wq(E w):Ch E w w:=(Kept.refl 0 0 w).chg
theorem JQ(s):fg fo s=jt s:=oC s
theorem pE(r):dT n ts (fo::r)=dT n ts (jt (hdS ts)++r):=by rw[fD xab,JQ]
theorem Nh{E}(F:∀W ts,Ps E W ts->ts.length<n+1->hdS ts≠[45]->Calls prog 124 #[ge E.P] W (Ot E W ts [fo] (GNd W 0)))(ag:XC E 117 [fo] 0 n):XC E 117 [fo] 0 (n+1):=by
 intro w ts f bD;have aa:∀k∈ts,TkC k:=by obtain⟨i,h⟩:=f;exact h.cl
 have B:(hdP E.t.length _).text=[45]↔hdS _=[45]:=kU aa xab;have bu:M _:=ow f;by_cases c:hdS ts=[45]
 ·obtain⟨k,us,rfl,H⟩:=lR c xab;have q:(cvT k).text=[45]:=B.2 c;replace bu:M (Calls _ _ _ w λe D=>e=.returned (.agg #[.int _ (cvT k).kind,dJ (cvT k).text,.int _ ((cvT k).at_:Int)])/\Kept 0 0 w _):=bu.o;have bW:M (∀W,Kept 0 0 w W->_):=λW ae=>yn (f.keep ae) (by rw[H];decide)
  have bC:M (∀r,dT _ _ ([fo]++r)=dT E.t.length _ ([fo]++r)):=λr=>by
   show dT _ _ (fo::r)=_
   rw[pE,c]
   exact kZ xab H _
  have K:M _:=λW g=>ag W _ g (by simp at bD;omega);have bb:=f.nw;have ay:=Q H;have b0:M _:=ut k;clear B aa F ag f H;rw[q]at bu;go_enter func117,ntmps117;go_upto_region 3 with (go_at_call 48;refine yai bu.o ?_;rintro e Z ⟨rfl,ad⟩);clear q;go_upto_region 4 with (go_at_call 79;refine yai (bW.o _ ad) ?_;rintro e ao ⟨rfl,C,ak⟩;unfold tkV);have cA:M (Ch E w _):=(ad.chg).andThen ak;have aO:M (Ps E _ _):=C;have aW:∀aA,Ch E (ao.alloc (.cells #[h0 (cvT k).kind,dJ (cvT k).text,h0 _] 84)) aA->aA.cell? _=some (.int _ ((cvT k).at_:Int))/\ao.heap.size<aA.heap.size:=λaA c=>by have h:=eo _ _ _ c (λe=>ih C.nw.1);exact⟨h.1 2,h.2.2⟩
  have aX:=Q aW;have an:M _:=dE 0 0 ao;clear aW ak ad bW bu C;go_region_with (go_at_call 117;refine yai (K.o _ ((aO.o.keep (an.o _)).keep (dH _))) ?_;rintro e aA (⟨am,Y,v,rfl,af,X,C,ak,bU,ap,G⟩|⟨p,rfl,X,ak⟩);rotate_left;exact h1 rfl (Ot.bad bC.o (cA.o.andThen ((an.o _).trans (dH _)).chg) X.o ak);obtain⟨a8,bE⟩:=aX.o _ (((dH _).chg).andThen ak);obtain⟨i1,I,rfl⟩:=G.iface)
  all_goals
   rw[b0.o]
   go_wp2
   refine yax (v:=.iface 194 (.agg #[h0 k.pos,hZ aA.heap.size 1 1,h0 6])) (by simp[results,results117,go_sem]) rfl ?_
   have aL:=dE 0 0 aA (.cells #[.iface i1 I] 134)
   have bY:=(cA.o.andThen (((an.o _).trans (dH _)).chg)).andThen ak
   exact .inl ⟨k::am,_,_,rfl,congrArg _ af.o,λr=>(bC.o r).trans (X.o r),C.keep aL,((cA.o.andThen (((an.o _).trans (dH _)).chg)).andThen ak).andThen aL.chg,_,.neg ay.o ap,.neg (wo _ _ _ bY.size xac) ((G.keep aL).fr (yan cA.o.size ((an.o _).trans (dH _)).size))⟩
 have aG:((hdP _ _).text==[45])=false:=yav (λh=>c (B.1 h));have b5:M _:=λW ae=>F W _ (f.keep ae) bD c;clear B aa F ag f;generalize hdP _ _=ct at*;go_enter func117,ntmps117;go_wp2_with (first|(go_at_call 48;refine yai bu.o ?_;rintro e Z ⟨rfl,ad⟩;unfold tkV)|(go_at_call 124;refine yai (b5.o _ ad) ?_;rintro e ao (⟨us,T,v,rfl,af,X,C,ak,bL⟩|⟨p,rfl,X,ak⟩);rotate_left;exact h1 rfl (Ot.bad (λr=>rfl) ad.chg X.o ak)));go_ret;obtain⟨aD,z,b4⟩:=bL;exact .inl ⟨_,_,_,rfl,af,X,C,(ad.chg).andThen ak,_,z,b4.fr ad.size⟩
theorem Ni:(prog.info? 134).map (λi=>(i.zero,i.size,i.bytes))=some (some .nilIface,1,16):=by kernel_rfl
theorem mG:∃bS,prog.info? 134=some bS/\bS.zero=some .nilIface/\bS.size=1/\bS.bytes=16:=by
 have h:=Ni;simp_all
theorem qQ(w){bE rest o a i1}(an:o.guard=none)(s x)
  (av:o.op=.call {callee:=.builtin .append,args:=#[s,x],argTypes:=#[188,188]})
  (v) (vs) (ai:a.eval s=v) (aW:w.ownsRow 0 134 1 v vs.length vs)
  (aG) (T) (y) (ar:a.eval x=hZ aG 1 1) (C:w.cell? ⟨aG,0,none⟩=some (.iface T y))
  (F:vs.length+1<=1000000)
  (h:∀g cap n D,n=(vs++[Value.iface T y]).length->D.ownsRow 0 134 1 (hZ g n cap) n (vs++[Value.iface T y])->Chg (λb=>v.ownBlock=some b) w D->(v.ownBlock=some g\/g=w.heap.size)->wpList prog bE i1 rest (a.put o.dst (hZ g n cap)) D):wpList prog bE i1 (o::rest) a w:=by
 obtain⟨bS,hi,ch,b6,ci⟩:=mG;refine wpList_append_lies w an s x _ av 0 134 _ _ 1 _ underlying188 hi ch b6 ci rfl xab v _ _ ai aW _ 1 1 [.iface T y] ar rfl ?_ ?_ xab (by unfold maxLen;omega) xaa yad _ rfl ?_
 ·grind[fL]
 ·intro u bd;simp at bd;obtain rfl:=bd;rfl
 exact xfp
def NdL(W:World)(Maa:Nat->Prop)(vs:List Value)(es:List Ex):Prop:=vs.length=es.length/\∀(j:Nat) (v:Value) (e:Ex),vs[j]? =some v->es[j]? =some e->Nd W Maa v e
theorem NdL.nil(W Maa):NdL W Maa [] []:=⟨rfl,λj v e h=>by cases h⟩
theorem NdL.snoc{W Maa}(f:NdL W Maa vs es)(h:Nd W Maa v e):NdL W Maa (vs++[v]) (es++[e]):=by
 exact xdb
theorem NdL.chg{W Maa}(f:NdL W Maa vs es)(c:Chg S W A)(aZ:∀b,S b->¬Maa b):NdL A Maa vs es:=⟨f.1,λj v e z J=>(f.2 j v e z J).chg c aZ⟩
theorem NdL.mono{W Maa M'}(f:NdL W Maa vs es)(h:∀b,Maa b->M' b):NdL W M' vs es:=⟨f.1,λj v e z J=>(f.2 j v e z J).mono h⟩
structure NdG(W:World)(n:Nat)(sl:Value)(vs:List Value)(es:List Ex):Prop where
 row:W.ownsRow 0 134 1 sl vs.length vs
 fr:∀b,sl.ownBlock=some b->n<=b
 nd:NdL W (λb=>n<=b/\sl.ownBlock≠some b) vs es
theorem NdG.rw{W}(f:NdG W n sl vs es):Rw W (Fr n) sl vs:=⟨f.row,f.fr⟩
theorem NdG.ndl{W}(f:NdG W n sl vs es):NdL W (Fr n) vs es:=f.nd.mono (λ_ h=>h.1)
theorem NdG.lt{W}(f:NdG W n sl vs es):∀b,sl.ownBlock=some b->b<W.heap.size:=λ_ e=>(dO f.row e).2
theorem NdG.chg{W}(f:NdG W n sl vs es)(c:Chg S W A)(aZ:∀b,S b->b<n):NdG A n sl vs es:=⟨((f.rw.chg c (λb h q=>by grind)):Rw A (Fr n) sl vs).1,f.fr,f.nd.chg c (λb h q=>by grind)⟩
theorem NdG.le{W}(f:NdG W n sl vs es)(h:g<=n):NdG W g sl vs es:=⟨f.row,λb e=>yan h (f.fr b e),f.nd.mono (λ_ q=>⟨yan h q.1,q.2⟩)⟩
def NoRow(W:World)(b:Nat):Prop:=∀cur f,W.heap[b]?≠some (.cells cur 134 f)
theorem aP.qbo(h:Zp:=by
 rw[c.block g aG (λh=>aZ g h _ _ bi)];exact bi):Zp:=h
open aP in
theorem A7{W size}(f:W.ownsRow 0 134 size sl n vs)(c:Chg S W A)(aZ:∀b,S b->NoRow W b):A.ownsRow 0 134 size sl n vs:=by
 refine⟨f.1,f.2.imp id ?_⟩;exact qbn
theorem Rw.oth{W Maa}(f:Rw W Maa sl vs)(c:Chg S W A)(aZ:∀b,S b->NoRow W b):Rw A Maa sl vs:=⟨A7 f.1 c aZ,f.2⟩
theorem Nd.oth{W Maa}(f:Nd W Maa v e)(c:Chg S W A)(aZ:∀b,S b->NoRow W b):Nd A Maa v e:=by
 induction f with
 |num=>exact .num
 |name=>exact .name
 |neg r _ O=>exact .neg (r.oth c aZ) O
 |bin r _ _ ay i1=>exact .bin (r.oth c aZ) ay i1
 |call r ab _ O=>exact .call (r.oth c aZ) ab O
 |exp h r _ O=>exact .exp h (r.oth c aZ) O
 |sum h r _ O=>exact .sum h (r.oth c aZ) O
 |max h r _ _ ay i1=>exact .max h (r.oth c aZ) ay i1
 |dot h r _ O=>exact .dot h (r.oth c aZ) O
 |sel h r _ _ _ ay i1 t=>exact .sel h (r.oth c aZ) ay i1 t
 |fill h r _ O=>exact .fill h (r.oth c aZ) O
 |pick h r _ O=>exact .pick h (r.oth c aZ) O
 |put r _ O=>exact .put (r.oth c aZ) O
 |grad r _ O=>exact .grad (r.oth c aZ) O
 |jvp r _ _ ay i1=>exact .jvp (r.oth c aZ) ay i1
theorem NdG.oth{W}(f:NdG W n sl vs es)(c:Chg S W A)(aZ:∀b,S b->NoRow W b):NdG A n sl vs es:=⟨A7 f.row c aZ,f.fr,f.nd.1,λj v e z J=>(f.nd.2 j v e z J).oth c aZ⟩
theorem CJ{W:World}{G T}(C:T≠134):NoRow (W.alloc (.cells G T)) W.heap.size:=by
 intro bp f h;grind[World.alloc]
theorem NoRow.chg{W}(f:NoRow W b)(c:Chg S W A)(I:b<W.heap.size)(aZ:¬S b):NoRow A b:=by
 intro bp q h;rw[c.block b I aZ]at h;exact f _ q h
theorem NdG.nil(W n):NdG W n pu [] []:=⟨yau _ _,λb e=>(by cases e),NdL.nil _ _⟩
theorem Rw.lt{W Maa}(f:Rw W Maa sl vs):Rw W (λb=>Maa b/\b<W.heap.size) sl vs:=⟨f.1,λb e=>⟨f.2 b e,(dO f.1 e).2⟩⟩
theorem Nd.lt{W Maa}(f:Nd W Maa v e):Nd W (λb=>Maa b/\b<W.heap.size) v e:=by
 induction f with
 |num=>exact .num
 |name=>exact .name
 |neg r _ O=>exact .neg r.lt O
 |bin r _ _ ay i1=>exact .bin r.lt ay i1
 |call r ab _ O=>exact .call r.lt ab O
 |exp q r _ O=>exact .exp q r.lt O
 |sum q r _ O=>exact .sum q r.lt O
 |max q r _ _ ay i1=>exact .max q r.lt ay i1
 |dot q r _ O=>exact .dot q r.lt O
 |sel q r _ _ _ ay i1 t=>exact .sel q r.lt ay i1 t
 |fill q r _ O=>exact .fill q r.lt O
 |pick q r _ O=>exact .pick q r.lt O
 |put r _ O=>exact .put r.lt O
 |grad r _ O=>exact .grad r.lt O
 |jvp r _ _ ay i1=>exact .jvp r.lt ay i1
theorem NdG.more{aH y}(f:NdG aH n sl vs es)(h:Nd aH (Fr m) v e)(ab:∀b,sl.ownBlock=some b->b<m)(aq:n<=m)(O:m<=aH.heap.size)(aL:Kept 0 0 aH a)(c:Chg (λb=>sl.ownBlock=some b) a y)(bb:N=(vs++[v]).length)(aw:y.ownsRow 0 134 1 (hZ g N cap) N (vs++[v]))(ce:sl.ownBlock=some g\/g=a.heap.size):NdG y n (hZ g N cap) (vs++[v]) (es++[e]):=by
 subst bb;have ai:=aL.size;refine⟨aw,λb e=>?_,?_⟩
 ·cases e;obtain q|q:=ce
  ·exact f.fr _ q
  grind
 refine NdL.snoc ?_ ?_
 ·refine⟨f.nd.1,λj u x z J=>?_⟩;have q:=(f.nd.2 j u x z J).lt;refine((q.keep aL).chg c (λb I bH=>bH.1.2 I)).mono (λb bH=>⟨bH.1.1,λe=>?_⟩);have a6:g=b:=by injection e
  grind
 have q:=h.lt;refine((q.keep aL).chg c (λb I bH=>by grind)).mono (λb bH=>⟨by omega,λe=>?_⟩);have a6:g=b:=by injection e
 grind
end
section
variable{w A:World}{k:Tok}{ts us T:List Tok}{st R rest:List (List UInt8)}{s aH:List UInt8}
structure Otp(E:Pe)(w:World)(ts:List Tok)(st:List (List UInt8))(us ws:List Tok)(rest:List (List UInt8))(W:World):Prop where
 sp:ts=us++ws
 wr:∀r,dT E.t.length ts (st++r)=dT E.t.length ws (rest++r)
 ps:Ps E W ws
 ch:Ch E w W
theorem Otp.start{E}(f:Ps E w ts):Otp E w ts st [] ts st w:=⟨rfl,λ_=>rfl,f,wq E w⟩
theorem Otp.keep{E W}(z:Otp E w ts st us T rest W)(k:Kept 0 0 W A):Otp E w ts st us T rest A:=⟨z.sp,z.wr,z.ps.keep k,z.ch.andThen k.chg⟩
theorem Otp.call{E w aa W ts us T st bq rest f args R}(aj:Calls prog f args W (Ot E W T bq m))(z:Otp E w ts st us T (bq++rest) aa)(ae:Kept 0 0 aa W)(b:∀p Z,Ot E w ts st bv (Thr 2 p) Z->R (Thr 2 p) Z)(a:∀y an v Z,Otp E w ts st (us++y) an rest Z->Ch E W Z->m y v Z->R (.returned v) Z):Calls prog f args W R:=by
 refine aj.mono ?_;rintro e Z (⟨y,an,v,rfl,af,X,C,ak,bL⟩|⟨p,rfl,X,ak⟩)
 ·exact a y an v Z ⟨by rw[z.sp,af.o,List.append_assoc],λr=>(z.wr r).trans (by rw[List.append_assoc];exact X.o (rest++r)),C,z.ch.andThen (ae.chg.andThen ak)⟩ ak bL
 exact b p _ (.inr ⟨p,rfl,λr=>(z.wr r).trans (by rw[List.append_assoc];exact X.o _),z.ch.andThen (ae.chg.andThen ak)⟩)
theorem Otp.ret{E W v}(z:Otp E w ts st us T [] W)(h:bv a v W)(e:us=a):Ot E w ts st bv (.returned v) W:=.inl ⟨us,T,v,rfl,z.sp,λr=>z.wr r,z.ps,z.ch,e ▸ h⟩
theorem lU{E}(f:Ps E w (k::us))(H:k.sym=s)(ai:s∈mh):Calls prog 48 #[ge E.P] w λe D=>e=.returned (.agg #[h0 (cvT k).kind,dJ s,h0 ((cvT k).at_:Int)])/\Kept 0 0 w D:=by
 have h:=ow f;have aa:∀x∈(k::us),TkC x:=by obtain⟨i,h⟩:=f;exact h.cl
 rw[<-(kU (n:=E.t.length) aa ai).2 H];exact h
theorem Otp.un{E}(f:Ps E w (k::us))(h:jt k.sym=R):Otp E w (k::us) [fo] [] (k::us) R w:=⟨rfl,λr=>by rw[<-h];exact pE r,f,wq E w⟩
def KwC(E:Pe)(w:World)(k:Tok)(us0:List Tok):Prop:=Calls prog 127 #[.pointer (some ⟨E.P,0,none⟩)] w (Ot E w (k::us0) [fo] (GNd w 0))
def PkC(E:Pe)(w:World)(a:Int)(b:List UInt8)(c:Nat):Prop:=Calls prog 48 #[.pointer (some ⟨E.P,0,none⟩)] w λe w'=>e=.returned (.agg #[.int .i64 a,dJ b,.int .i64 (c:Int)])/\Kept 0 0 w w'
theorem yo{E:Pe}(s:List UInt8)(f:Ps E w T)(ai:s∈mh:=by decide):(∃k us,T=k::us/\M (k.sym=s)/\M (PkC E w (cvT k).kind s (cvT k).at_))\/(hdS T≠s/\∃a b c,(b==s)=false/\M (PkC E w a b c)):=by
 have aa:∀x∈T,TkC x:=by obtain⟨i,h⟩:=f;exact h.cl
 have z:=kU (n:=E.t.length) aa ai;by_cases c:hdS T=s
 ·obtain⟨k,us,rfl,H⟩:=lR c (jR s ai).2.2.2.2;exact .inl ⟨k,_,rfl,H,lU f H ai⟩
 exact .inr ⟨c,_,_,_,yav (λh=>c (z.1 h)),ow f⟩
theorem Otp.re{E W}(z:Otp E w ts st us T rest W)(h:∀r,dT E.t.length T (rest++r)=dT E.t.length T (a++r)):Otp E w ts st us T a W:=⟨z.sp,λr=>(z.wr r).trans (h r),z.ps,z.ch⟩
theorem Otp.rule{E:Pe}{W:World}(z:Otp E w ts st us T (aH::rest) W)(h:fg aH (hdS T)=R)(bo:gC aH=true:=by decide):Otp E w ts st us T (R++rest) W:=z.re (λr=>by grind[fD])
theorem Otp.ruleK{E:Pe}{W:World}(z:Otp E w ts st us (k::T) (aH::rest) W)(H:k.sym=s)(h:fg aH s=R:=by rfl)(bo:gC aH=true:=by decide):Otp E w ts st us (k::T) (R++rest) W:=z.rule (by rw[<-h,<-H];rfl) bo
theorem Otp.taken{E:Pe}{aa W:World}{R:Ending->World->Prop}(z:Otp E w ts st us (k::T) (s::rest) aa)(H:k.sym=s)(ae:Kept 0 0 aa W)(a:∀Z,Otp E w ts st (us++[k]) T rest Z->Ch E W Z->R (.returned (tkV (cvT k))) Z)(ai:s≠[]/\gC s=false:=by decide):Calls prog 79 #[ge E.P] W R:=by
 refine(yn (z.ps.keep ae) (by grind)).mono ?_;rintro e Z ⟨rfl,p,c⟩;exact a _ ⟨by rw[z.sp];simp,λr=>(z.wr r).trans (kZ ai.2 H _),p,z.ch.andThen (ae.chg.andThen c)⟩ c
abbrev tkO(x:Tok):Obj:=.cells #[.int .i64 (cvT x).kind,dJ (cvT x).text,.int .i64 ((cvT x).at_:Int)] 84
structure TBx(E:Pe)(W:World)(b:Nat)(x:Tok):Prop where
 c0:W.cell? ⟨b,0,none⟩=some (.int .i64 (cvT x).kind)
 c1:W.cell? ⟨b,1,none⟩=some (dJ (cvT x).text)
 c2:W.cell? ⟨b,2,none⟩=some (.int .i64 ((cvT x).at_:Int))
 lt:b<W.heap.size
 p:E.P<b
theorem TBx.new{E W}(f:Ps E W T)(x):TBx E (W.alloc (tkO x)) W.heap.size x:=by
 obtain⟨z,_,al⟩:=eo W #[h0 (cvT x).kind,dJ (cvT x).text,h0 ((cvT x).at_:Int)] 84 (ib).chg (S:=λ_=>False) (λc=>c);exact⟨z 0,z 1,z 2,al,f.nw.1⟩
theorem TBx.ch{E W x}(f:TBx E W b x)(c:Ch E W A):TBx E A b x:=by
 have n:¬b=E.P:=ih f.p
 exact⟨(c.cell f.lt n).trans f.c0,(c.cell f.lt n).trans f.c1,(c.cell f.lt n).trans f.c2,yaj f.lt c.size,f.p⟩
end
section
attribute[local go_sem] dI dG dF gh gj gn mkF
variable{ts:List Tok}
theorem A8{n es}(h:Pr n es ts):es.length<=ts.length:=by
 induction h<;>simp_all<;>omega
theorem Ps.len{E W}(f:Ps E W ts):ts.length<=4001:=by
 obtain⟨i,h⟩:=f;have z:=congrArg List.length h.dr;have J:=h.len;unfold Tl at z;simp at z;omega
def GLs(w:World)(us:List Tok)(v:Value)(w':World):Prop:=∃es vs,Rw w' (Fr w.heap.size) v vs/\NdL w' (Fr w.heap.size) vs es/\((es=[]/\∃l r,us=[l,r]/\l.sym=[40]/\r.sym=[41])\/∃l r t1,us=l::(t1++[r])/\l.sym=[40]/\Pr 3 es t1/\r.sym=[41])
theorem mr(W:World)(v T):(W.alloc (.cells #[v] T)).cell? ⟨W.heap.size,0,none⟩=some v:=by rw[yat];rfl
theorem bY.qcp(h:Zp:=by
 go_wp2_with (first
  |(go_at_call 80;refine Otp.call (be.o _ _ t.o.ps aO.o.1) t.o ib (λ_ _ h=>h1 rfl h) ?_;rintro am Y aC aA F c5 ⟨bU,ap,G⟩;obtain⟨i1,I,rfl⟩:=G.iface;have aT:=mr aA (.iface i1 I) 134;have c6:M _:=bL.o.chg (cA.o.andThen c5) (λb e=>ih j.o.1);have U:M _:=dW c6.o.row (dE 0 0 _ (.cells #[.iface i1 I] 134)))
  |(at_builtin;refine qQ _ rfl _ _ rfl _ _ (by rfl) U.o _ _ _ (by rfl) aT aO.o.2 ?_))
 intro g9 cap9 n9 bn b4 ca bO cn;have aL:=dE 0 0 aA (.cells #[.iface i1 I] 134);have aV:=bL.o.lt;have aZ:M _:=c6.o.more G (λb e=>yaj (aV b e) cA.o.size) t.o.ch.size c5.size aL bO (by rw[b4];simp) ca (by simpa using cn);have af:=bL.o.fr;have D:=F.keep aL;have aE:M (Otp E w _ _ (l::(us++k::am)) _ [gg,[41]] _):=⟨by rw[D.sp];simp,D.wr,D.ps.far bO (λb e=>ip (af b e) j.o.2.1),D.ch.new bO (λb h e=>ih (af b e))⟩
 have q:M (Pr 3 _ _):=.argM aX.o H.o ap;have aj:Y.length<gk:=by have h:=congrArg List.length (t.o.sp.symm.trans F.sp);simp at h;omega
 clear ca bO cn aL aV af G F D c5 ap b4 c6 U aT;go_wp2_with fail;go_roundg Y.length
 case measure=>exact aj
 case rel=>exact⟨_,_,_,_,rfl,q,aZ,aE⟩):Zp:=h
theorem bY.qfm(h:Zp:=by
 obtain⟨k,cM,rfl,H,a⟩|⟨c,aN,o,aP,aG,a⟩:=yo [41] C.o.ps
 ·have t:M (Otp E w _ _ [l] _ _ _):=C.o.ruleK (R:=[]) H.o;go_wp2_with (first|(go_at_call 48;refine yai a.o ?_;rintro e Z ⟨rfl,ad⟩)|(go_at_call 79;refine t.o.taken H.o ad ?_;intro ao i c3));go_ret;exact i.ret ⟨_,_,⟨yau _ _,λb e=>(by cases e)⟩,NdL.nil _ _,.inl ⟨rfl,l,k,rfl,ab.o,H.o⟩⟩ rfl
 have V:M (Otp E w _ _ [l] _ _ _):=C.o.rule (h2 c);have bM:M (an.length<n):=by have:=j.o.2.2.2;rw[C.o.sp]at this;simp at this;exact this
 clear c C;go_wp2_with (first|(go_at_call 48;refine yai a.o ?_;rintro e Z ⟨rfl,ad⟩)|(go_at_call 80;refine Otp.call (be.o _ _ (V.o.ps.keep ad) bM.o) V.o ad (λ_ _ h=>h1 rfl h) ?_;rintro cM aw aM ao i c3 ⟨ag,u,p⟩;obtain⟨g,X,rfl⟩:=p.iface));have aK:=dE 0 0 ao (.cells #[.iface g X] 134);have g5:w.heap.size<=Z.heap.size:=(V.o.ch.andThen ad.chg).size
 have aD:M (NdG (ao.alloc (.cells #[.iface g X] 134)) w.heap.size (hZ ao.heap.size 1 1) [.iface g X] [ag]):=by
  have ah:=wo _ _ [.iface g X] i.ch.size xac;refine⟨ah.1,ah.2,NdL.snoc (NdL.nil _ _) ((p.lt.keep aK).mono (λb bH=>⟨yan g5 bH.1,λe=>?_⟩))⟩;have a6:ao.heap.size=b:=by injection e
  have:=bH.2;omega
 have ai:M _:=i.keep aK;have r:M _:=Pr.arg1 u;clear u i p c3 ad aK g5 a;go_loopg [5] aw.length (λm sl W=>∃(es:List Ex) (vs:List Value) (us T:List Tok),T.length=m/\M (Pr 3 es us)/\M (NdG W w.heap.size sl vs es)/\M (Otp E w ts [[40],kR,[41]] (l::us) T [gg,[41]] W))
 case atStart=>exact⟨_,_,_,_,rfl,r,aD,ai⟩
 case round=>
  obtain⟨es,vs,us,T,aR,aX,bL,ar⟩:=hrel;clear aD ai r;obtain⟨k,ay,rfl,H,a⟩|⟨c,aN,o,aP,aG,a⟩:=yo [44] ar.o.ps
  ·have aF:M _:=ar.o.ruleK (R:=[[44],d6,gg]) H.o;have bp:ay.length<gk:=by simp at aR;omega
   have aO:M (ay.length<n/\vs.length+1<=1000000):=by
    have z:=A8 aX.o;have J:=j.o.2.2;have al:=bL.o.nd.1;rw[ar.o.sp]at J;simp at J;exact⟨by omega,by omega⟩
   exact qco
  have ai:M _:=ar.o.rule (h2 c);have O:M (∀W,Kept 0 0 _ W->_):=λW ae=>eX (ar.o.ps.keep ae) (s:=[41]) xab;clear c;go_wp2_with (first|(go_at_call 48;refine yai a.o ?_;rintro e Z ⟨rfl,ad⟩)|(go_at_call 82;refine Otp.call (O.o _ ad) ai.o ad (λ_ _ h=>h1 rfl h) ?_;rintro am Y aC aA F c5 ⟨au,rfl,ak,rfl⟩));go_ret;have s:=bL.o.chg (ad.chg.andThen c5) (λb e=>ih j.o.1);exact F.ret ⟨_,_,s.rw,s.ndl,.inr ⟨l,_,_,rfl,ab.o,aX.o,ak⟩⟩ rfl):Zp:=h
open bY in
theorem JR{E n}(ax:XC E 80 [d6] 2 n){w}(f:Ps E w ts)(bD:ts.length<n+1):Calls prog 128 #[ge E.P,.func (.func 80) #[ge E.P] #[]] w (Ot E w ts [[40],kR,[41]] (GLs w)):=by
 have be:=Q ax;have j:M (E.P<w.heap.size/\E.N<=w.heap.size/\ts.length<=4001/\ts.length<n+1):=⟨f.nw.1,f.nw.2,f.len,bD⟩
 have O:M _:=eX f (s:=[40]) xab;have bl:M (Otp E w _ [[40],kR,[41]] _ _ _ w):=.start f;clear ax f bD;go_enter func128,ntmps128;exact qfl
end
section
variable{w bv t:World}{bh D A:Nat}{sl:Value}{vs:List Value}{es:List Ex}{T:List Tok}
structure OpI(E:Pe)(w W:World)(bx bi at_:Nat)(sl:Value)(vs:List Value)(es:List Ex)(ws:List Tok):Prop where
 c0:W.cell? ⟨bi,0,none⟩=some (.int .i64 (at_:Int))
 c1:W.cell? ⟨bi,1,none⟩=some sl
 fz:∀o,W.frozen? ⟨bi,o,none⟩=false
 r0:(W.cell? ⟨bx,0,none⟩).isSome=true
 r1:(W.cell? ⟨bx,1,none⟩).isSome=true
 rf:∀o,W.frozen? ⟨bx,o,none⟩=false
 o0:E.P<w.heap.size
 oN:E.N<=w.heap.size
 o1:w.heap.size<=bx
 o2:bx<bi
 o3:bi<W.heap.size
 G:NdG W (bi+1) sl vs es
 ps:Ps E W ws
 ch:Ch E w W
theorem OpI.far{E W Y S}(f:OpI E w W bh D A sl vs es T)(c:Chg S W bv)(aZ:∀b,S b->b<w.heap.size)(h:Ps E bv Y)(aj:Ch E w bv):OpI E w bv bh D A sl vs es Y:=by
 have z:=f.o1;have J:=f.o2;have al:=f.o3;have I:¬S D:=λe=>by grind
 have l:¬S bh:=λe=>by grind
 have ar:bh<W.heap.size:=xaa;refine⟨?_,?_,λo=>?_,?_,?_,λo=>?_,f.o0,f.oN,f.o1,f.o2,yaj f.o3 c.size,f.G.chg c (λb e=>by grind),h,aj⟩
 ·rw[c.cell al I];exact f.c0
 ·rw[c.cell al I];exact f.c1
 ·rw[c.frozen al I];exact f.fz o
 ·rw[c.cell ar l];exact f.r0
 ·rw[c.cell ar l];exact f.r1
 rw[c.frozen ar l];exact f.rf o
theorem OpI.call{E w W bv bh D A sl vs es T Y}(f:OpI E w W bh D A sl vs es T)(c:Ch E W bv)(h:Ps E bv Y):OpI E w bv bh D A sl vs es Y:=f.far c (λb e=>ih f.o0) h (f.ch.andThen c)
theorem OpI.keep{E W}(f:OpI E w W bh D A sl vs es T)(k:Kept 0 0 W bv):OpI E w bv bh D A sl vs es T:=f.far (k.chg (S:=λ_=>False)) (λ_ e=>e.elim) (f.ps.keep k) (f.ch.andThen k.chg)
theorem OpI.grown{E W}(f:OpI E w W bh D A sl vs es T)(c:Chg (λb=>sl.ownBlock=some b) W t):t.cell? ⟨D,1,none⟩=some sl/\t.frozen? ⟨D,1,none⟩=false/\D<t.heap.size:=by
 have V:¬sl.ownBlock=some D:=λe=>ih (f.G.fr D e)
 exact⟨(c.cell f.o3 V).trans f.c1,(c.frozen f.o3 V).trans (f.fz 1),yaj f.o3 c.size⟩
theorem OpI.push{E W v e}(f:OpI E w W bh D A sl vs es T)(h:Nd W (Fr m) v e)(ab:∀b,sl.ownBlock=some b->b<m)(aq:D+1<=m)(O:m<=W.heap.size){aH}(aL:Kept 0 0 W aH)(c:Chg (λb=>sl.ownBlock=some b) aH t)(bb:N=(vs++[v]).length)(aw:t.ownsRow 0 134 1 (hZ g N cap) N (vs++[v]))(ce:sl.ownBlock=some g\/g=aH.heap.size):OpI E w (t.setCell ⟨D,1,none⟩ (hZ g N cap)) bh D A (hZ g N cap) (vs++[v]) (es++[e]) T:=by
 have bO:=f.keep aL;have bL:=f.G.more h ab aq O aL c bb aw ce;have z:=f.o1;have J:=f.o2;have al:=bO.o3;have af:=f.G.fr;have V:¬sl.ownBlock=some D:=λe=>ih (af D e)
 have a:¬sl.ownBlock=some bh:=λe=>ih (af bh e)
 have ar:bh<aH.heap.size:=xaa;have aW:(⟨D,1,none⟩:Addr)≠⟨D,0,none⟩:=by simp
 have cs:=dV (S:=λb=>b=D) t D 1 (hZ g N cap) rfl;have u:D<t.heap.size:=yaj al c.size;have i:bh<t.heap.size:=yaj ar c.size;refine⟨?_,?_,λo=>?_,?_,?_,λo=>?_,f.o0,f.oN,f.o1,f.o2,?_,bL.chg cs (λb e=>by omega),?_,?_⟩
 ·rw[h6 (h:=aW),c.cell (p:=⟨D,0,none⟩) al V];exact bO.c0
 ·exact World.cell?_setCell_same (h:=(c.cell (p:=⟨D,1,none⟩) al V).trans bO.c1) ..
 ·rw[World.frozen?_setCell,c.frozen (p:=⟨D,o,none⟩) al V];exact bO.fz o
 ·rw[cs.cell (p:=⟨bh,0,none⟩) i (Nat.ne_of_lt J),c.cell (p:=⟨bh,0,none⟩) ar a];exact bO.r0
 ·rw[cs.cell (p:=⟨bh,1,none⟩) i (Nat.ne_of_lt J),c.cell (p:=⟨bh,1,none⟩) ar a];exact bO.r1
 ·rw[World.frozen?_setCell,c.frozen (p:=⟨bh,o,none⟩) ar a];exact bO.rf o
 ·exact yaj u cs.size
 ·have bb:=f.oN;exact(bO.ps.far c (λb e=>ih (af b e))).far cs (λb e=>by omega)
 exact(bO.ch.new c (λb I e=>ih (af b e))).new cs (λb I e=>by omega)
theorem OpI.start{E W}(c0:W.cell? ⟨D,0,none⟩=some (h0 A))(c1:W.cell? ⟨D,1,none⟩=some pu)(bC:∀o,W.frozen? ⟨D,o,none⟩=false)(b2:(W.cell? ⟨bh,0,none⟩).isSome=true)(r1:(W.cell? ⟨bh,1,none⟩).isSome=true)(au:∀o,W.frozen? ⟨bh,o,none⟩=false)(hn:E.P<w.heap.size)(bm:E.N<=w.heap.size)(ca:w.heap.size<=bh)(b6:bh<D)(aO:D<W.heap.size)(ps:Ps E W T)(l:Ch E w W):OpI E w W bh D A pu [] [] T:=⟨c0,c1,bC,b2,r1,au,hn,bm,ca,b6,aO,NdG.nil _ _,ps,l⟩
end
section
attribute[local go_sem] dI dG dF gh gj gn mkF
variable{au bx:Type}{n U A m:Nat}{ts R:List Tok}{w bv t:World}{k:Tok}{es:List Ex}{sl v:Value}{vs:List Value}
def stM:Nat->List (List UInt8)
 |0=>[]
 |m+1=>[44]::d6::stM m
def GOp(w:World)(k:Tok)(n:Nat)(us:List Tok)(v:Value)(w':World):Prop:=∃l t1 es vs sl,us=k::l::t1/\l.sym=[40]/\Pr 3 es t1/\es.length=n/\v=.agg #[.int .i64 (k.pos:Int),sl]/\NdG w' w.heap.size sl vs es
theorem FO{w}(x y)(aC:(w.cell? ⟨b,0,none⟩).isSome=true)(z:(w.cell? ⟨b,1,none⟩).isSome=true):
  ((w.setCell ⟨b,0,none⟩ x).setCell ⟨b,1,none⟩ y).cell? ⟨b,0,none⟩=some x/\((w.setCell ⟨b,0,none⟩ x).setCell ⟨b,1,none⟩ y).cell? ⟨b,1,none⟩=some y/\Chg (λi=>i=b) w ((w.setCell ⟨b,0,none⟩ x).setCell ⟨b,1,none⟩ y):=by
 have n1:(⟨b,0,none⟩:Addr)≠⟨b,1,none⟩:=by simp
 refine⟨?_,?_,(dV (S:=λi=>i=b) w b 0 x rfl).andThen (dV _ b 1 y rfl)⟩
 ·rw[h6 (h:=n1.symm),World.cell?_setCell_same' _ _ _ aC]
 rw[World.cell?_setCell_same' _ _ _ (by rw[h6 (h:=n1)];exact z)]
theorem lV{E}(ax:XC E 80 [d6] 2 n)(f:Ps E w (k::R))(bD:R.length<n+1)(H:k.sym∈keysL)(aR:m<=2):Calls prog 129 #[ge E.P,h0 ((m:Int)+1)] w (Ot E w (k::R) (k.sym::[40]::d6::stM m) (GOp w k (m+1))):=by
 have aK:=jR _ (List.mem_append_left _ H);have be:=Q ax;have bf:=Q bD;have j:=Q f.nw;have bW:M (∀W,Kept 0 0 w W->_):=λW ae=>yn (f.keep ae) aK.1;have an:M _:=dE 0 0 w;have bc:M (∀r,dT E.t.length _ _=dT _ R r):=λr=>kZ (nE _ (List.mem_append_left _ H)) rfl r;have b0:M _:=ut k;have bH:M (∀ao,Ch E _ _->_):=λao c=>eo w (A:=ao) #[h0 0,pu] 190 c (λe=>ih f.nw.1);clear ax f bD aK H;go_enter func129,ntmps129;go_upto_region 2 with (go_at_call 79;refine yai (bW.o _ (an.o _)) ?_;rintro e aa ⟨rfl,i,ar⟩;unfold tkV)
 have V:M (OpI E w (aa.alloc (.cells #[h0 ((cvT k).at_:Int),pu] 190)) w.heap.size aa.heap.size (cvT k).at_ pu [] [] R):=by
  have aL:=dE 0 0 aa (.cells #[h0 ((cvT k).at_:Int),pu] 190);obtain⟨bB,bQ,X⟩:=bH.o _ (ar.andThen aL.chg);obtain⟨aQ,aU,bN⟩:=eo aa #[h0 ((cvT k).at_:Int),pu] 190 (ib).chg (S:=λ_=>False) (λc=>c);exact OpI.start (aQ 0) (aQ 1) aU (by grind) (by grind) bQ j.o.1 j.o.2 yac (yaj xac ar.size) bN (i.keep aL) (((an.o _).chg.andThen ar).andThen aL.chg)
 have O:M _:=eX V.o.ps (s:=[40]) xab;clear i ar bW bH;generalize aa.alloc _=Z at*;generalize aa.heap.size=D at*;have bC:M (w.heap.size=w.heap.size):=rfl;generalize av:w.heap.size=bh at V⊢;go_upto_region 3 with (go_at_call 82;refine yai O.o ?_;rintro e ao (⟨cM,aw,aM,rfl,ah,L,aq,ag,l,rfl,ab,rfl⟩|⟨p,rfl,L,ag⟩);rotate_left;exact h1 rfl (Ot.bad (ts:=k::R) (st:=k.sym::[40]::d6::stM m) (st2:=[40]::d6::stM m) (λr=>bc.o _) V.o.ch (λr=>L.o (d6::(stM m++r))) ag));have S:M _:=V.o.call ag aq;have o:M (∀r,dT _ _ (k.sym::[40]::d6::stM m++r)=dT _ _ _):=λr=>(bc.o _).trans (L.o (d6::(stM m++r)));have ai:M (aw.length<n):=by have:=bf.o;rw[ah.o]at this;simp at this;exact this
 have bo:=Q ab;have ak:=S.o.c1;have az:=S.o.fz 1;have bF:=S.o.o3;have aO:M (Ps E _ _):=aq;obtain⟨bS,bj,ch,b6,ci⟩:=mG;clear aq ag O V ab;go_cut [] (λb4=>∃(am Y:List Tok) (bU:Ex) (g cap:Nat) (v:Value),M (aw=am++Y)/\M (∀r,dT E.t.length aw (d6::r)=dT E.t.length Y r)/\M (Pr 3 [bU] am)/\M (OpI E w b4 bh D (cvT k).at_ (hZ g 1 cap) [v] [bU] Y))
 case first=>
  go_region_law (first
   |((fail_if_success (exfalso;refine absurd P.size ?_));go_simp;go_wp2_with (first|(go_at_call 80;refine yai (be.o _ aw (S.o.ps.keep (dH _)) ai.o) ?_;rintro e aA (⟨am,Y,aC,rfl,C,y,x,P,bU,ap,G⟩|⟨p,rfl,y,P⟩);rotate_left;exact h1 rfl (Ot.bad (ts:=k::R) (st:=k.sym::[40]::d6::stM m) (st2:=d6::stM m) o.o (S.o.ch.andThen (dH _).chg) (λr=>y.o (stM m++r)) P);obtain⟨i1,I,rfl⟩:=G.iface;have aT:=mr aA (.iface i1 I) 134;have aF:M _:=(S.o.keep (dH _)).call P x;have b3:=aF.o.c1;have a5:=(aF.o.keep (dE 0 0 aA (.cells #[.iface i1 I] 134))).c1;have aP:=aF.o.o3)|fail))
   |(rw[h3 (by simp[Region.wanted])];refine wp_append_lies (aA.alloc (.cells #[.iface i1 I] 134)) (.tmp 13) (.tmp 16) 188 rfl 0 134 bS .nilIface 1 16 underlying188 bj ch b6 ci rfl xab pu 0 [] ?_ (aF.o.keep (dE 0 0 aA (.cells #[.iface i1 I] 134))).G.row ⟨aA.heap.size,0,none⟩ 1 1 [.iface i1 I] ?_ rfl (cell_one_new _ _ _) ?_ xab ?_ ?_ ?_ _ rfl ?_;(first|rfl|simp[Act.eval]);(first|rfl|simp[Act.eval]);(intro u bd;cases bd with|head=>rfl|tail _ h=>cases h);exact yan (show 0+1<=5000 by omega) xab;exact(show(0+1)*16<=140737488355328 by omega);exact yad;intro g9 cap9 bn aB a0 bs cr;obtain⟨m3,aY,a8⟩:=(aF.o.keep (dE 0 0 aA (.cells #[.iface i1 I] 134))).grown (eD a0)))
  all_goals
   have aL:=dE 0 0 aA (.cells #[.iface i1 I] 134)
   have aE:M _:=aF.o.push (v:=.iface i1 I) G (λb e=>by cases e) (show D+1<=ao.drew.heap.size from bF) P.size aL (eD a0) rfl aB (bs.imp id (λe=>e.trans xac))
   have aG:M (Pr 3 _ _):=.arg1 ap
   clear aB a0 bs cr m3 aY a8 aL G P x aF b3 a5 aP aT ap
   go_wp2_with fail
   go_meet
   exact⟨_,_,_,_,_,_,C,λr=>y.o r,aG,aE⟩
 case rest=>
  obtain⟨am,Y,bU,b1,cx,aC,C,y,(aD:M _),aF⟩:=hcut;have bg:M _:=λr=>(o.o r).trans (y.o _);have ce:=Q aO.o.len;clear ak az bF S o y aO;go_wp2_with fail;go_loopg [] m (λq W=>∃(es:List Ex) (vs:List Value) (us T:List Tok) (g N cap:Nat),N+q=m+1/\M (vs.length=N)/\M (es.length=N)/\M (aw=us++T)/\M (Pr 3 es us)/\M (OpI E w W bh D (cvT k).at_ (hZ g N cap) vs es T)/\M (∀r,dT E.t.length (k::R) (k.sym::[40]::d6::stM m++r)=dT E.t.length T (stM q++r)))
  case atStart=>exact⟨[bU],[aC],_,_,_,1,_,by omega,rfl,rfl,C,aD,aF,bg⟩
  case round=>
   clear aF bg aD C;obtain⟨es,vs,us,T,g,N,cap,a6,bb,a7,af,aX,B,s⟩:=hrel;have ak:=B.o.c1;match gk,a6,s with
   |0,a6,s=>
    have bq:=B.o.c0;have bz:N=m+1:=xaa;obtain⟨bK,bE⟩:=Option.isSome_iff_exists.1 B.o.r0;obtain⟨a9,bG⟩:=Option.isSome_iff_exists.1 B.o.r1;have bZ:=B.o.rf 0;have aS:=B.o.rf 1;have bF:=B.o.o3;have cg:=B.o.o2;subst bz;go_wp2;obtain⟨cc,aW,aj⟩:=FO (h0 ((cvT k).at_:Int)) (hZ g (m+1) cap) B.o.r0 B.o.r1;generalize (wr.setCell ⟨_,0,_⟩ _).setCell ⟨_,1,_⟩ _=bn at cc aW aj;refine yax (v:=.agg #[h0 ((cvT k).at_:Int),hZ g (m+1) cap]) (by simp[results,results129,go_sem,cc,aW]) rfl ?_;have ca:=B.o.o1;have bm:=B.o.oN;have cn:=B.o.G.chg aj (λb e=>by omega);exact .inl ⟨_,_,_,rfl,by show _=_;rw[ah.o,af.o];rfl,s,B.o.ps.far aj (λb e=>by omega),B.o.ch.new aj (λb h e=>by omega),l,_,_,_,_,rfl,bo.o,aX.o,a7.o,by rw[b0.o],cn.le xaa⟩
   |q+1,a6,s=>
    have aV:N<m+1:=xaa;have O:M _:=eX B.o.ps (s:=[44]) xab;have bJ:M (N<=4001):=by have z:=A8 aX.o;have J:=ce.o;have al:=a7.o;rw[af.o]at J;simp at J;show _<=_;omega
    go_upto_block 1 with fail;go_cut [] from 19 to 32 (λb4=>∃(ay K:List Tok) (c:Tok) (F:Ex) (aH bi:Nat) (v:Value),M (T=c::(ay++K))/\M (c.sym=[44])/\M (∀r,dT E.t.length T ([44]::d6::r)=dT E.t.length K r)/\M (Pr 2 [F] ay)/\M (OpI E w b4 bh D (cvT k).at_ (hZ aH (N+1) bi) (vs++[v]) (es++[F]) K))
    case first=>
     go_upto_region 6 with (go_at_call 82;refine yai O.o ?_;rintro e cf (⟨ay,K,bp,rfl,aZ,ad,bl,aI,c,rfl,aj,rfl⟩|⟨p,rfl,ad,aI⟩);rotate_left;exact h1 rfl (Ot.bad (ts:=k::R) (st:=k.sym::[40]::d6::stM m) (st2:=[44]::d6::stM q) s.o B.o.ch (λr=>ad.o (d6::(stM q++r))) aI));have a:M _:=B.o.call aI bl;have bw:M _:=λr=>(s.o r).trans (ad.o (d6::(stM q++r)));have br:M (K.length<n):=by have:=ai.o;rw[af.o,aZ.o]at this;simp at this;show _<_;omega
     have aN:=Q aj;have c7:=bJ.o;have ba:=a.o.c1;have bu:=a.o.fz 1;have co:=a.o.o3;have aJ:=a.o.G.lt g rfl;clear bl aI O aj ak
     go_region_law (first
      |((fail_if_success (exfalso;refine absurd P.size ?_));go_simp;go_wp2_with (first|(go_at_call 80;refine yai (be.o _ _ (a.o.ps.keep (dH _)) br.o) ?_;rintro e aA (⟨am,Y,aC,rfl,C,y,x,P,bU,ap,G⟩|⟨p,rfl,y,P⟩);rotate_left;exact h1 rfl (Ot.bad (ts:=k::R) (st:=k.sym::[40]::d6::stM m) (st2:=d6::stM q) bw.o (a.o.ch.andThen (dH _).chg) (λr=>y.o (stM q++r)) P);obtain⟨i1,I,rfl⟩:=G.iface;have aT:=mr aA (.iface i1 I) 134;have aF:M _:=(a.o.keep (dH _)).call P x;have b3:=aF.o.c1;have a5:=(aF.o.keep (dE 0 0 _ (.cells #[.iface i1 I] 134))).c1;have aP:=aF.o.o3)|fail))
      |(rw[h3 (by simp[Region.wanted])];refine wp_append_lies (aA.alloc (.cells _ 134)) (.tmp 27) (.tmp 30) _ rfl 0 134 _ _ 1 _ underlying188 bj ch b6 ci rfl xab _ N _ ?_ (by have h:=(aF.o.keep (dE 0 0 _ (.cells #[.iface i1 I] 134))).G.row;rw[bb.o]at h;exact h) _ 1 1 _ ?_ rfl (cell_one_new _ _ _) ?_ xab ?_ ?_ ?_ _ rfl ?_;(first|rfl|simp[Act.eval]);(first|rfl|simp[Act.eval]);(intro u bd;cases bd with|head=>rfl|tail _ h=>cases h);exact yan (show N+1<=5000 by omega) xab;exact(show(N+1)*16<=140737488355328 by omega);exact yad;intro g9 cap9 bn aB a0 bs cr;obtain⟨m3,aY,a8⟩:=(aF.o.keep (dE 0 0 _ _)).grown (eD a0)))
     all_goals
      have aL:=dE 0 0 aA (.cells #[.iface i1 I] 134)
      have aE:M _:=aF.o.push G (λb e=>by cases e;exact aJ) (show D+1<=cf.drew.heap.size from co) P.size aL (eD a0) (by rw[yak,bb.o];rfl) aB (bs.imp id (λe=>e.trans xac))
      have aG:=Q ap
      clear aB a0 bs cr m3 aY a8 aL G P x aF b3 a5 aP aT ap
      go_wp2_with fail
      go_meet
      exact⟨_,_,c,_,_,_,_,by show _=_;rw[aZ.o,C.o];rfl,aN,λr=>(ad.o _).trans (y.o r),aG,aE⟩
    case rest=>
     obtain⟨ay,K,c,F,aH,bi,bp,aZ,bk,ad,bA,a⟩:=hcut;go_wp2_with fail;go_roundg q
     case measure=>omega
     case rel=>exact⟨_,_,_,_,_,_,_,by omega,by show _=_;rw[yak,bb.o];rfl,by show _=_;rw[yak,a7.o];rfl,by show _=_;rw[af.o,aZ.o];simp,.argM aX.o bk.o bA.o,a,λr=>(s.o r).trans (ad.o _)⟩
theorem wu(h:Pr 3 es ts):(∃e,es=[e]/\Pr 2 [e] ts)\/∃f e ba c bu,es=f++[e]/\ts=ba++c::bu/\Pr 3 f ba/\c.sym=[44]/\Pr 2 [e] bu:=by
 cases h<;>grind
theorem nZ(h:Pr 3 es ts)(ab:es.length=1):∃e,es=[e]/\Pr 2 [e] ts:=by
 grind[wu]
theorem wv(h:Pr 3 es ts)(ab:es.length=2):∃a b ba c bu,es=[a,b]/\ts=ba++c::bu/\Pr 2 [a] ba/\c.sym=[44]/\Pr 2 [b] bu:=by
 grind[wu,nZ]
theorem CK(h:Pr 3 es ts)(ab:es.length=3):∃a b d ba c bu c2 co,es=[a,b,d]/\ts=ba++c::(bu++c2::co)/\Pr 2 [a] ba/\c.sym=[44]/\Pr 2 [b] bu/\c2.sym=[44]/\Pr 2 [d] co:=by
 obtain⟨e,rfl,_⟩|⟨f,e,ba,c,bu,rfl,rfl,z,J,al⟩:=wu h<;>grind[wv]
theorem th{vs:List au}{e:bx}(h:vs.length=[e].length):∃v,vs=[v]:=by
 match vs,h with
 |[v],_=>exact⟨v,rfl⟩
theorem JS{W:World}{T size:Nat}(f:W.ownsRow 0 T size sl 1 vs):∃g cap,sl=hZ g 1 cap:=by
 obtain⟨_,h⟩|⟨g,cap,bp,z,_⟩:=f.2<;>grind
theorem CL{W o}(f:NoRow W b):NoRow (W.setCell ⟨b,o,none⟩ v) b:=by
 intro bp q h;simp only[World.setCell,Array.getElem?_modify,if_true]at h;cases e:W.heap[b]? with
 |none=>grind
 |some l=>
  rw[e]at h;simp only[Option.map_some,Option.some.injEq]at h;cases l with
  |cells c elem bC=>
   simp only[Obj.cells.injEq]at h;rw[h.2.1]at e;exact f _ _ e
  |_=>simp at h
structure JvI(E:Pe)(w W:World)(b3 at_:Nat)(sl:Value)(vs:List Value)(es:List Ex):Prop where
 c0:W.cell? ⟨b3,0,none⟩=some (.int .i64 (at_:Int))
 c1:W.cell? ⟨b3,1,none⟩=some sl
 fz:∀o,W.frozen? ⟨b3,o,none⟩=false
 lt3:b3<W.heap.size
 o0:E.P<w.heap.size
 oN:E.N<=w.heap.size
 o3:w.heap.size<=b3
 nr:NoRow W b3
 G:NdG W w.heap.size sl vs es
theorem JvI.far{E W S}(f:JvI E w W U A sl vs es)(c:Chg S W bv)(aZ:∀b,S b->b<w.heap.size):JvI E w bv U A sl vs es:=by
 have al:=f.o3;have I:¬S U:=λe=>by grind
 exact⟨(c.cell f.lt3 I).trans f.c0,(c.cell f.lt3 I).trans f.c1,λo=>(c.frozen f.lt3 I).trans (f.fz o),yaj f.lt3 c.size,f.o0,f.oN,f.o3,f.nr.chg c f.lt3 I,f.G.chg c aZ⟩
theorem JvI.call{E w W bv U A sl vs es}(f:JvI E w W U A sl vs es)(c:Ch E W bv):JvI E w bv U A sl vs es:=f.far c (λb e=>ih f.o0)
theorem JvI.keep{E W}(f:JvI E w W U A sl vs es)(k:Kept 0 0 W bv):JvI E w bv U A sl vs es:=f.far (k.chg (S:=λ_=>False)) (λ_ e=>e.elim)
theorem JvI.own{E W}(f:JvI E w W U A sl vs es):¬sl.ownBlock=some U:=λe=>by
 obtain⟨h,_⟩|⟨g,cap,bp,z,_,J,_⟩:=f.G.row.2
 ·rw[h]at e;cases e
 ·rw[z]at e
  have a6:g=U:=by injection e
  rw[a6]at J
  exact f.nr _ _ J
theorem JvI.grown{E W}(f:JvI E w W U A sl vs es)(c:Chg (λb=>sl.ownBlock=some b) W t):t.cell? ⟨U,1,none⟩=some sl/\t.frozen? ⟨U,1,none⟩=false/\U<t.heap.size:=
 ⟨(c.cell (p:=⟨U,1,none⟩) f.lt3 f.own).trans f.c1,(c.frozen (p:=⟨U,1,none⟩) f.lt3 f.own).trans (f.fz 1),yaj f.lt3 c.size⟩
theorem JvI.push{E W aH e}(f:JvI E w W U A sl vs es)(h:Nd W (Fr m) v e)(ab:∀b,sl.ownBlock=some b->b<m)(aq:w.heap.size<=m)(O:m<=W.heap.size)(aL:Kept 0 0 W aH)(c:Chg (λb=>sl.ownBlock=some b) aH t)(bb:N=(vs++[v]).length)(aw:t.ownsRow 0 134 1 (hZ g N cap) N (vs++[v]))(ce:sl.ownBlock=some g\/g=aH.heap.size):JvI E w (t.setCell ⟨U,1,none⟩ (hZ g N cap)) U A (hZ g N cap) (vs++[v]) (es++[e]):=by
 have bO:=f.keep aL;have bL:=f.G.more h ab aq O aL c bb aw ce;have aW:(⟨U,1,none⟩:Addr)≠⟨U,0,none⟩:=by simp
 have cs:=dV (S:=λb=>b=U) t _ 1 (hZ g N cap) rfl;have u:U<t.heap.size:=yaj bO.lt3 c.size;have a:NoRow _ _:=bO.nr.chg c bO.lt3 bO.own;refine⟨?_,?_,λo=>?_,yaj u cs.size,f.o0,f.oN,f.o3,?_,bL.oth cs (λb e=>by grind)⟩
 ·rw[h6 (h:=aW),c.cell bO.lt3 bO.own];exact bO.c0
 ·exact World.cell?_setCell_same (h:=(c.cell bO.lt3 bO.own).trans bO.c1) ..
 ·rw[World.frozen?_setCell,c.frozen bO.lt3 bO.own];exact bO.fz o
 exact CL a
def GJv(w:World)(k:Tok)(us:List Tok)(v:Value)(w':World):Prop:=∃l t1 c x c2 t2 e d,us=k::l::(t1++c::x::c2::t2)/\l.sym=[40]/\Pr 2 [e] t1/\c.sym=[44]/\x.sym=eu/\c2.sym=[44]/\Pr 2 [d] t2/\Nd w' (Fr w.heap.size) v (.jvp k e x d)
abbrev jST(k:Tok):List (List UInt8):=[k.sym,[40],d6,[44],eu,[44],d6]
theorem zP{E}(ax:XC E 80 [d6] 2 n)(f:Ps E w (k::R))(bD:R.length<n+1)(H:k.sym∈keysL):Calls prog 131 #[ge E.P] w (Ot E w (k::R) (jST k) (GJv w k)):=by
 have be:=Q ax;have bf:=Q bD;have j:=Q f.nw;have bl:M (Otp E w _ _ _ _ (jST k) w):=.start f;have ai:M _:=lV ax f bD H (m:=0) xaa;clear ax f bD H;go_enter func131,ntmps131;go_upto_region 2 with (go_at_call 129;refine Otp.call ai.o bl.o ib (λ_ _ h=>h1 rfl h) ?_;rintro y an aH aa C c1 ⟨l,ba,bp,p,sl,bg,ab,aq,a6,rfl,ag⟩;obtain⟨K,rfl,ah⟩:=nZ aq a6;have bc:=ag.nd.1;obtain⟨aH,rfl⟩:=th bc;obtain⟨s,cs,rfl⟩:=JS ag.row);have aW:=dE 0 0 aa (.cells #[h0 k.pos,hZ s 1 cs] 190)
 have fs:M (JvI E w (aa.alloc (.cells #[h0 k.pos,hZ s 1 cs] 190)) aa.heap.size k.pos (hZ s 1 cs) [aH] [K]):=by
  obtain⟨aQ,aU,bN⟩:=eo aa #[h0 _,hZ s 1 cs] 190 (ib).chg (S:=λ_=>False) (λc=>c);exact⟨aQ 0,aQ 1,aU,bN,j.o.1,j.o.2,C.ch.size,CJ xab,ag.chg (aW.chg (S:=λ_=>False)) (λ_ h=>h.elim)⟩
 have q:M _:=C.keep aW;have ae:M (y=k::l::ba/\l.sym=[40]/\Pr 2 _ _):=⟨bg,ab,ah⟩
 have a9:M _:=nh q.o.ps (.inl ⟨rfl,rfl⟩);have ad:s<aa.heap.size:=ag.lt _ rfl;clear C c1 ag bg ab aq ah a6 bc ai bl aW;generalize aa.alloc _=Z at*;generalize aa.heap.size=U at*;go_upto_region 3 with (go_at_call 130;refine Otp.call a9.o q.o ib (λ_ _ h=>h1 rfl h) ?_;rintro cM aw aM ao i c3 ⟨c,x,rfl,aj,ar,rfl⟩;unfold tkV);have aK:=dE 0 0 ao (tkO x);have al:M _:=(fs.o.call c3).keep aK;have r:M _:=i.keep aK;have bm:M (∀S aA,Chg S (ao.alloc (tkO x)) _->¬S _->_):=λS aA cv V=>eo _ (A:=aA) _ _ cv V;have av:M (w.heap.size<=ao.heap.size/\U<ao.heap.size):=⟨i.ch.size,yaj fs.o.lt3 c3.size⟩
 have bb:M (c.sym=[44]/\x.sym=eu):=⟨aj,ar⟩
 have O:M _:=eX r.o.ps (s:=[44]) xab;clear i c3 aj ar aK a9 fs q;generalize ao.alloc _=a7 at*;generalize ao.heap.size=bt at*;go_upto_region 4 with (go_at_call 82;refine Otp.call O.o r.o ib (λ_ _ h=>h1 rfl h) ?_;rintro ay aN aS cf (F:M _) c4 ⟨c2,rfl,aD,rfl⟩);have a:M _:=al.o.call c4;have aX:=Q c4
 have aO:M (aN.length<n):=by
  have z:=bf.o;have J:=congrArg List.length F.o.sp;rw[ae.o.1]at J;simp at J;show _<_;omega
 have bo:=Q aD;have ak:=a.o.c1;have az:=a.o.fz 1;have bF:=a.o.lt3;have aJ:s<cf.heap.size:=a.o.G.lt _ rfl;obtain⟨bS,bj,ch,b6,ci⟩:=mG;clear r c4 aD O al;go_cut [] (λb4=>∃(am Y:List Tok) (X:Ex) (g cap:Nat) (v:Value),M (Pr 2 [X] am)/\M (JvI E w b4 U k.pos (hZ g 2 cap) [aH,v] [K,X])/\M (Otp E w (k::R) (jST k) ([]++y++[c,x]++[c2]++am) Y [] b4)/\M ((∀o,b4.cell? ⟨bt,o,none⟩=(#[h0 (cvT x).kind,dJ (cvT x).text,h0 ((cvT x).at_:Int)]:Array Value)[o]?)/\bt<b4.heap.size))
 case first=>
  go_region_law (first
   |((fail_if_success (exfalso;refine absurd P.size ?_));go_simp;go_wp2_with (first|(go_at_call 80;refine Otp.call (rest:=[]) (be.o _ aN (F.o.ps.keep (dH _)) aO.o) F.o (dH _) (λ_ _ h=>h1 rfl h) ?_;rintro am Y aC aA D P ⟨X,ap,G⟩;obtain⟨i1,I,rfl⟩:=G.iface;have aT:=mr aA (.iface i1 I) 134;have aF:M _:=(a.o.keep (dH _)).call P;have b3:=aF.o.c1;have a5:=(aF.o.keep (dE 0 0 aA (.cells #[.iface i1 I] 134))).c1;have aP:=aF.o.lt3)|fail))
   |(rw[h3 (by simp[Region.wanted])];refine wp_append_lies (aA.alloc (.cells #[.iface i1 I] 134)) (.tmp 12) (.tmp 15) 188 rfl 0 134 bS .nilIface 1 16 underlying188 bj ch b6 ci rfl xab (hZ s 1 cs) 1 [aH] ?_ (aF.o.keep (dE 0 0 aA (.cells #[.iface i1 I] 134))).G.row ⟨aA.heap.size,0,none⟩ 1 1 [.iface i1 I] ?_ rfl (cell_one_new _ _ _) ?_ xab ?_ ?_ ?_ _ rfl ?_;(first|rfl|simp[Act.eval]);(first|rfl|simp[Act.eval]);(intro u bd;cases bd with|head=>rfl|tail _ h=>cases h);exact yan (show 1+1<=5000 by omega) xab;exact(show(1+1)*16<=140737488355328 by omega);exact yad;intro g9 cap9 bn aB a0 bs cr;obtain⟨m3,aY,a8⟩:=(aF.o.keep (dE 0 0 aA (.cells #[.iface i1 I] 134))).grown (eD a0)))
  all_goals
   have aL:=dE 0 0 aA (.cells #[.iface i1 I] 134)
   have aR:=dV (S:=λb=>b=U) bn U 1 (hZ g9 2 cap9) rfl
   have bh:M _:=aF.o.push (v:=.iface i1 I) G (λb e=>by cases e;exact aJ) F.o.ch.size P.size aL (eD a0) rfl aB (bs.imp id (λe=>e.trans xac))
   have af:=aF.o.G.fr
   have aI:=D.keep aL
   have aE:M (Otp E w _ _ _ _ _ _):=⟨aI.sp,aI.wr,(aI.ps.far (eD a0) (λb e=>ip (af b e) j.o.2)).far aR (λb e=>ip a.o.o3 j.o.2),(aI.ch.new (eD a0) (λb h e=>ih (af b e))).new aR (λb h e=>ih a.o.o3)⟩
   have aG:=Q ap
   have aZ:Chg (λb=>b=E.P\/b=s\/b=U) _ _:=((((aX.o.andThen (dH _).chg).andThen P).andThen aL.chg).mono (λb _ e=>.inl e)).andThen (((eD a0).mono (λb _ e=>.inr (.inl (by injection e with e;exact e.symm)))).andThen (aR.mono (λb _ e=>.inr (.inr e))))
   have e7:=bm.o _ _ aZ (by
    have z:=av.o
    have J:=j.o
    rintro (h|h|h)<;>omega)
   have bk:M _:=h1 e7.1 e7.2.2
   clear aB a0 bs cr m3 aY a8 aL G P D aI aF b3 a5 aP aT ap af aR aZ e7
   go_wp2_with fail
   go_meet
   exact⟨_,_,_,_,_,_,aG,bh,aE,bk⟩
 case rest=>
  obtain⟨am,Y,X,b1,cx,aC,ap,aV,B,T⟩:=hcut;have cg:=aV.o.c0;have a1:=aV.o.c1;have bK:=T.o.1 0;have L:=T.o.1 1;have bi:=T.o.1 2;simp only[List.getElem?_toArray,List.getElem?_cons_zero,List.getElem?_cons_succ]at bK L bi;clear ak az bF a F aX;go_wp2;go_ret;have bL:=aV.o.G;exact B.o.ret ⟨l,_,c,x,_,_,_,_,rfl,ae.o.2.1,ae.o.2.2,bb.o.1,bb.o.2,bo.o,ap.o,.jvp bL.rw (bL.ndl.2 0 _ _ rfl rfl) (bL.ndl.2 1 _ _ rfl rfl)⟩ (by rw[ae.o.1];simp)
theorem Rw.form{W Maa}(f:Rw W Maa sl vs):∃a cap,sl=.slice a vs.length cap:=by
 obtain⟨h,aC⟩|⟨g,cap,bp,z,_⟩:=f.1.2
 ·exact⟨none,0,by rw[h,aC]⟩
 exact⟨_,cap,z⟩
theorem yp{E}(ax:XC E 80 [d6] 2 n)(f:Ps E w (k::R))(bD:R.length<n+1)(H:k.sym=eu):Calls prog 126 #[ge E.P] w (Ot E w (k::R) [fo] (GNd w 0)):=by
 have bf:M (∀W,Ps E W R->_):=λW g=>JR ax (w:=W) g bD;have bl:M (Otp E w (k::R) [fo] [] (k::R) _ w):=.un (R:=[eu,ot]) f (i0 H);have b0:M ((cvT k).at_=k.pos):=ut k;have ay:M (k.sym=eu):=H;clear ax f bD H;go_enter func126,ntmps126;go_upto_region 2 with (go_at_call 79;refine bl.o.taken ay.o ib ?_;rintro aH (C:M _) c1;unfold tkV);have B:M _:=TBx.new C.o.ps k;replace C:M _:=C.o.keep (dE 0 0 aH (tkO k));clear bl c1;generalize aH.alloc (tkO k)=Z at*;generalize aH.heap.size=aq at*;obtain⟨j,y,rfl,aK,a⟩|⟨c,aN,o,aP,aG,a⟩:=yo [40] C.o.ps
 ·go_upto_region 4 with (go_at_call 48;refine yai a.o ?_;rintro e ao ⟨rfl,a5⟩);replace C:M _:=(C.o.ruleK (R:=[[40],kR,[41]]) aK.o).keep a5;replace B:M _:=B.o.ch (E:=E) a5.chg;obtain⟨bq,ak,az,bF,_⟩:=B.o;clear a a5;go_region_with (go_at_call 128;refine Otp.call (bf.o _ (C.o.ps.keep (dH _))) C.o (dH _) (λ_ _ h=>h1 rfl h) ?_;rintro am Y aC aA F c5 ⟨s,p,b,fa,i⟩;obtain⟨bT,bg,a8,bE,_⟩:=B.o.ch ((dH _).chg.andThen c5);obtain⟨bX,X,rfl⟩:=b.form)
  all_goals
   have bY:w.heap.size<=ao.drew.heap.size:=C.o.ch.size
   have bc:M _:=Nd.call (k:=k) (b.fr bY) fa.1 (fa.mono (λ_ q=>yan bY q)).2
   rw[<-b0.o]at bc
   go_wp2
   refine yax (v:=.iface 203 (.agg #[h0 ((cvT k).at_:Int),.slice bX p.length X,h0 (cvT k).kind,dJ (cvT k).text,h0 ((cvT k).at_:Int)])) (by simp[results,results126,go_sem]) rfl ?_
   obtain⟨rfl,l,r,rfl,ab,ah⟩|⟨l,r,ba,rfl,ab,aB,ah⟩:=i
   ·exact F.ret ⟨_,.call0 ay.o ab ah,bc.o⟩ rfl
   ·exact F.ret ⟨_,.call ay.o ab aB ah,bc.o⟩ rfl
 replace C:M _:=C.o.rule (R:=[]) (h2 c);clear c bf;go_wp2_with (go_at_call 48;refine yai a.o ?_;rintro e ao ⟨rfl,a5⟩;obtain⟨bT,bg,a8,bE,_⟩:=B.o.ch (E:=E) a5.chg);rw[b0.o];go_ret;have bc:=Nd.name (W:=ao) (Maa:=Fr w.heap.size) (k:=k);rw[b0.o]at bc;exact(C.o.keep a5).ret ⟨.name k,.name ay.o,bc⟩ rfl
theorem FP(k w):Calls prog 50 #[tkV k] w λe D=>e=.returned (.bool (k.kind==4||k.kind==5))/\Kept 0 0 w D:=by
 obtain⟨ae,i1,aL⟩:=k;unfold tkV;simp only;have q:=dE 0 0 w (.cells #[h0 ae,dJ i1,h0 aL] 84);cases bw:(ae==4)
 ·cases bL:(ae==5)
  all_goals
   go_enter func50,ntmps50
   go_wp2
   refine yax (v:=.bool (ae==4||ae==5)) (by simp[results,results50,go_sem,bw,bL]) rfl ?_
   grind
 go_enter func50,ntmps50;go_wp2;refine yax (v:=.bool true) (by simp[results,results50,go_sem]) rfl ?_;grind
theorem FQ{s}(z:s≠[45])(J:s≠eu)(al:s≠[40])(bw:s∉keysL)(bL:s≠iS):jt s=[fx]:=by
 have i:∀x,x∈keysL->s≠x:=λx ar e=>bw (by grind);unfold jt;rw[h2 z,h2 (show ¬s=[110,97,109,101] from J),h2 al,h2 (λe=>e.elim (i _ xab) (i _ xab)),h2 (λe=>e.elim (i _ xab) (i _ xab)),h2 (i _ xab),h2 (λe=>e.elim (i _ xab) (i _ xab)),h2 (i _ xab),h2 (i _ xab),h2 (i _ xab),h2 (show ¬s=[100,101,99] from bL)];rfl
theorem FR{p:Nat}(z:hdS ts≠[45])(J:hdS ts≠eu)(bw:hdS ts∉keysL)(bL:hdS ts≠iS)(bf:hdS ts≠fx)(X:∀r,dT n ts ([[40]]++r)=(p:Int))(r):dT n ts ([fo]++r)=(p:Int):=by
 show dT n ts (fo::r)=_;rw[pE];by_cases c:hdS ts=[40]
 ·rw[c];exact X _
 rw[FQ z J c bw bL];have K:=X [];rw[show[[40]]++[]=[40]::([]:List (List UInt8)) from rfl,lD xab c]at K;rw[<-K];exact lD xab bf r
theorem FS{E}(ax:XC E 80 [d6] 2 n)(bd:∀W ts,Ps E W ts->ts.length<n+1->hdS ts∈keysL->Calls prog 127 #[ge E.P] W (Ot E W ts [fo] (GNd W 0)))(f:Ps E w ts)(bD:ts.length<n+1)(j:hdS ts≠[45]):Calls prog 124 #[ge E.P] w (Ot E w ts [fo] (GNd w 0)):=by
 have aa:∀k∈ts,TkC k:=by obtain⟨i,h⟩:=f;exact h.cl
 obtain⟨u,g,G,J,_⟩:=vN (n:=E.t.length) aa;have a:M (PkC E w _ _ _):=ow f;have s:M _:=λW=>FP (hdP E.t.length ts) W;by_cases b:hdS ts=fx\/hdS ts=iS
 ·obtain⟨k,us,rfl⟩:∃k us,ts=k::us:=by
   obtain c|c:=b<;>(obtain⟨k,us,e,_⟩:=lR c xab;grind)
  have I:((cvT k).kind==4||(cvT k).kind==5)=true:=by
   obtain c|c:=b
   ·rw[show(cvT k).kind=4 from g.2 c];rfl
   rw[show(cvT k).kind=5 from G.2 c];rfl
  have bl:M (Otp E w (k::us) [fo] [] (k::us) [k.sym] w/\k.sym≠[]/\gC k.sym=false):=by
   obtain c|c:=b<;>(have c:k.sym=_:=c;exact⟨.un f (i0 c),by rw[c];decide⟩)
  have bi:M (k.sym=fx\/k.sym=iS):=b;replace s:M (∀W,Calls _ _ #[.agg _] W _):=λW=>by have h:=s.o W;rw[show(hdP _ _)=cvT k from rfl,I]at h;exact h
  replace a:M (PkC E w (cvT k).kind (cvT k).text (cvT k).at_):=a.o;have cO:M _:=ut k;clear ax bd f aa u g G J b I j bD;go_enter func124,ntmps124;go_upto_region 2 with (go_at_call 48;refine yai a.o ?_;rintro e Z ⟨rfl,ad⟩);have ai:M _:=ad.trans (dE 0 0 _ (tkO k));have B:M _:=TBx.new (bl.o.1.ps.keep ad) k;obtain⟨bq,ak,az,bF,_⟩:=B.o;clear ad;generalize Z.alloc _=ao at*;generalize Z.heap.size=aq at*;go_upto_region 3 with (go_at_call 50;refine yai (s.o _) ?_;rintro e a7 ⟨rfl,b0⟩);replace B:M _:=B.o.ch b0.chg;replace ai:M _:=ai.o.trans b0;clear b0 bq ak az bF s a;obtain⟨bq,ak,az,bF,_⟩:=B.o;go_region_with (go_at_call 79;refine bl.o.1.taken rfl (ai.o.trans (dH _)) ?_ bl.o.2;rintro aA F c5;obtain⟨bT,bg,a8,bE,_⟩:=B.o.ch ((dH _).chg.andThen c5);unfold tkV)
  all_goals
   have bc:M _:=Nd.num (W:=aA) (Maa:=Fr w.heap.size) (k:=k)
   rw[<-cO.o]at bc
   go_wp2
   refine yax (v:=.iface 199 (.agg #[h0 ((cvT k).at_:Int),pu,h0 (cvT k).kind,dJ (cvT k).text,h0 ((cvT k).at_:Int)])) (by simp[results,results124,go_sem]) rfl ?_
   exact F.ret ⟨_,.num bi.o,bc.o⟩ rfl
 have I:((hdP E.t.length ts).kind==4||(hdP E.t.length ts).kind==5)=false:=by simp_all
 replace s:M (∀W,Calls _ _ #[.agg _] W _):=λW=>by have h:=s.o W;rw[I]at h;exact h
 have o:M _:=λW ae aj=>bd W _ (f.keep ae) bD aj
 have cT:M (∀W,Kept 0 0 w W->hdS ts=eu->Calls prog 126 #[ge E.P] W (Ot E W ts [fo] (GNd W 0))):=λW ae aj=>by
  obtain⟨k,us,rfl,H⟩:=lR aj xab
  exact yp ax (f.keep ae) (by grind) H
 have bl:M _:=Otp.start (st:=[fo]) f;have be:=Q ax;have bf:M (ts.length<n+1/\E.P<w.heap.size):=⟨bD,f.nw.1⟩
 have bi:M (¬(hdS _=fx\/hdS _=iS)/\hdS _≠[45]):=⟨b,j⟩
 have bV:=Q u;have aZ:=Q J;clear ax bd f aa u g G J b I j bD;generalize hdP _ _=ct at*;obtain⟨ae,i1,q⟩:=ct;simp only at s a bV aZ;go_enter func124,ntmps124;go_upto_region 2 with (go_at_call 48;refine yai a.o ?_;rintro e Z ⟨rfl,ad⟩);have ai:M _:=ad.trans (dE 0 0 Z (.cells #[h0 ae,dJ i1,h0 q] 84));have aw:M (∀aA,Kept 0 0 (Z.alloc (.cells #[h0 ae,dJ i1,h0 q] 84)) aA->aA.cell? ⟨Z.heap.size,0,none⟩=some (h0 ae)/\aA.cell? ⟨Z.heap.size,1,none⟩=some (dJ i1)/\aA.cell? ⟨Z.heap.size,2,none⟩=some (h0 q)):=λaA c=>by have h:=eo Z (A:=aA) _ _ (c.chg (S:=λ_=>False)) (λe=>e);exact⟨h.1 0,h.1 1,h.1 2⟩
 obtain⟨bq,ak,az⟩:=aw.o _ ib;clear ad;generalize Z.alloc _=ao at*;generalize Z.heap.size=aq at*;go_upto_region 4 with (go_at_call 50;refine yai (s.o _) ?_;rintro e a7 ⟨rfl,b0⟩);obtain⟨bJ,ba,bu⟩:=aw.o _ b0;replace ai:M _:=ai.o.trans b0;clear b0 bq ak az s a aw;by_cases c2:ae=2
 ·subst c2;have b5:M _:=cT.o _ ai.o (bV.o.1 rfl);go_wp2_with (go_at_call 126;refine Otp.call b5.o bl.o ai.o (λ_ _ h=>h1 rfl h) ?_;rintro us T v aA F c5 ⟨aD,z,b4⟩);go_ret;exact F.ret ⟨_,z,b4.fr ai.o.size⟩ rfl
 by_cases c3:ae=3
 ·subst c3;have b5:M _:=o.o _ ai.o (aZ.o.1 rfl);go_wp2_with (go_at_call 127;refine Otp.call b5.o bl.o ai.o (λ_ _ h=>h1 rfl h) ?_;rintro us T v aA F c5 ⟨aD,z,b4⟩);go_ret;exact F.ret ⟨_,z,b4.fr ai.o.size⟩ rfl
 have b5:M _:=eX (bl.o.ps.keep ai.o) (s:=[40]) xab;have O:M (∀p:Nat,(∀r,dT E.t.length _ _=p)->∀r,dT _ _ _=p):=λp X r=>FR bi.o.2 (λe=>c2 (bV.o.2 e)) (λe=>c3 (aZ.o.2 e)) (λe=>bi.o.1 (.inr e)) (λe=>bi.o.1 (.inl e)) X r;clear cT o bV aZ;go_upto_region 9 with (go_at_call 82;refine yai b5.o ?_;rintro e aA (⟨am,Y,aC,rfl,C,y,x,P,l,rfl,ab,rfl⟩|⟨p,rfl,y,P⟩);rotate_left;exact h1 rfl (Or.inr ⟨p,rfl,O.o p y.o,(ai.o.chg).andThen P⟩))
 have F:M (Otp E w _ _ _ _ [d6,[41]] _):=⟨C.o,λr=>by
  rw[show[fo]++r=fo::r from rfl,pE,show hdS _=[40] by rw[C.o];exact ab]
  exact y.o _,x,ai.o.chg.andThen P⟩
 have bo:=Q ab;have V:M (Y.length<n):=by have:=bf.o.1;rw[C.o]at this;simp at this;exact this
 clear O b5 x P ab y;go_upto_region 10 with (go_at_call 80;refine Otp.call (be.o _ _ F.o.ps V.o) F.o ib (λ_ _ h=>h1 rfl h) ?_;rintro an ar ap b7 (D:M _) bU ⟨cg,S,L⟩);have af:M _:=L.fr F.o.ch.size;have ag:=Q S;clear bU L S;go_wp2_with (go_at_call 82;refine Otp.call (eX D.o.ps xab) D.o ib (λ_ _ h=>h1 rfl h) ?_;rintro ay K bp cf aI ce ⟨al,rfl,ah,rfl⟩);go_ret;exact aI.ret ⟨_,.par bo.o ag.o ah,af.o.ch ce bf.o.2⟩ rfl
theorem FT{vs:List au}{e d:bx}(h:vs.length=[e,d].length):∃v u,vs=[v,u]:=by
 match vs,h with
 |[v,u],_=>exact⟨v,u,rfl⟩
theorem FU{vs:List au}{e d c:bx}(h:vs.length=[e,d,c].length):∃v u x,vs=[v,u,x]:=by
 match vs,h with
 |[v,u,x],_=>exact⟨v,u,x,rfl⟩
theorem P4{E}(f:Ps E w (k::R))(H:k.sym∈[kIn,tO,tP,sw,tQ]):KwC E w k R:=by
 have aF:M (∀W,Kept 0 0 w W->_):=λW ae=>rp (f.keep ae);simp only[List.mem_cons,List.not_mem_nil,or_false]at H;obtain H|H|H|H|H:=H
 all_goals
  have a:M _:=lU f H xab
  have bC:M (∀r,dT E.t.length _ _=(vL E.t.length _:Int)):=λr=>by
   rw[(Otp.un f rfl).wr r,H]
   exact lD xab (by show k.sym≠_;rw[H];decide) r
  clear f H
  unfold KwC
  go_enter func127,ntmps127
  go_wp2_with (first|(go_at_call 48;refine yai a.o ?_;rintro e Z ⟨rfl,ad⟩)|(go_at_call 81;refine yai (aF.o _ ad) ?_;rintro e ao ⟨rfl,a5⟩))
  exact⟨rfl,.inr ⟨_,rfl,bC.o,(ad.trans a5).chg⟩⟩
theorem kw1{E}(ax:XC E 80 [d6] 2 n)(f:Ps E w (k::R))(bD:R.length<n+1)(H:k.sym=oA\/k.sym=vx):KwC E w k R:=by
 obtain H|H:=H
 all_goals
  have j:=Q f.nw.1
  have a:M _:=lU f H xab
  have bl:M (Otp E w _ _ _ _ [k.sym,[40],d6,[41]] w):=.un f (i0 H)
  have ai:M (∀W,Kept 0 0 w W->_):=λW ae=>lV ax (f.keep ae) bD (by rw[H];decide) (m:=0) xaa
  have c:=Q H
  clear ax f bD H
  unfold KwC
  go_enter func127,ntmps127
  go_upto_region 25 with (first|(go_at_call 48;refine yai a.o ?_;rintro e Z ⟨rfl,ad⟩)|(go_at_call 129;refine Otp.call (ai.o _ ad) bl.o ad (λ_ _ h=>h1 rfl h) ?_;rintro cM aw aM ao i bE ⟨l,ba,G,q,P,(x:M _),(ab:M _),p,(D:M _),rfl,g⟩;obtain⟨a3,c3,rfl⟩:=g.rw.form))
  obtain⟨K,C,bw⟩:=nZ p D.o
  subst C
  obtain⟨aH,rfl⟩:=th g.nd.1
  have br:M _:=g.le ad.size
  have O:M _:=eX i.ps (s:=[41]) xab
  have z:=Q i
  clear a bl ai g i bE ad
  go_wp2_with (go_at_call 82;refine Otp.call O.o z.o ib (λ_ _ h=>h1 rfl h) ?_;rintro i1 V L bn o B ⟨J,rfl,u,rfl⟩)
  go_ret
  exact o.ret ⟨_,.key1 (by first|exact .inl c.o|exact .inr c.o) ab.o bw u,.ch (by first|exact .exp c.o br.o.rw (br.o.ndl.2 0 _ _ rfl rfl)|exact .sum c.o br.o.rw (br.o.ndl.2 0 _ _ rfl rfl)) B j.o⟩ (by rw[x.o];simp)
theorem Pb{E}(ax:XC E 80 [d6] 2 n)(f:Ps E w (k::R))(bD:R.length<n+1)(H:k.sym=l8):KwC E w k R:=by
 have j:=Q f.nw.1;have a:M _:=lU f H xab;have bl:M (Otp E w _ _ _ _ [k.sym,[40],d6,[44],d6,[41]] w):=.un f (i0 H);have ai:M (∀W,Kept 0 0 w W->_):=λW ae=>lV ax (f.keep ae) bD (by rw[H];decide) (m:=1) xaa;have c:=Q H;clear ax f bD H;unfold KwC;go_enter func127,ntmps127;go_upto_region 25 with (first|(go_at_call 48;refine yai a.o ?_;rintro e Z ⟨rfl,ad⟩)|(go_at_call 129;refine Otp.call (ai.o _ ad) bl.o ad (λ_ _ h=>h1 rfl h) ?_;rintro cM aw aM ao i bE ⟨l,ba,G,q,P,(x:M _),(ab:M _),p,(D:M _),rfl,g⟩;obtain⟨a3,c3,rfl⟩:=g.rw.form));obtain⟨K,a6,bu,c2,co,C,(I:M _),bw,aD,p2⟩:=wv p D.o;subst C;obtain⟨aH,aN,rfl⟩:=FT g.nd.1;have br:M _:=g.le ad.size;have O:M _:=eX i.ps (s:=[41]) xab;have z:=Q i;clear a bl ai g i bE ad;go_wp2_with (go_at_call 82;refine Otp.call O.o z.o ib (λ_ _ h=>h1 rfl h) ?_;rintro i1 V L bn o B ⟨J,rfl,u,rfl⟩);go_ret;exact o.ret ⟨_,.key2 (.inl c.o) ab.o bw aD p2 u,.ch (by first|exact .max c.o br.o.rw (br.o.ndl.2 0 _ _ rfl rfl) (br.o.ndl.2 1 _ _ rfl rfl)) B j.o⟩ (by rw[x.o,I.o];simp)
theorem Pc{E}(ax:XC E 80 [d6] 2 n)(f:Ps E w (k::R))(bD:R.length<n+1)(H:k.sym=qO):KwC E w k R:=by
 have j:=Q f.nw.1;have a:M _:=lU f H xab;have bl:M (Otp E w _ _ _ _ [k.sym,[40],d6,[44],d6,[44],d6,[41]] w):=.un f (i0 H);have ai:M (∀W,Kept 0 0 w W->_):=λW ae=>lV ax (f.keep ae) bD (by rw[H];decide) (m:=2) xaa;have c:=Q H;clear ax f bD H;unfold KwC;go_enter func127,ntmps127;go_upto_region 25 with (first|(go_at_call 48;refine yai a.o ?_;rintro e Z ⟨rfl,ad⟩)|(go_at_call 129;refine Otp.call (ai.o _ ad) bl.o ad (λ_ _ h=>h1 rfl h) ?_;rintro cM aw aM ao i bE ⟨l,ba,G,q,P,(x:M _),(ab:M _),p,(D:M _),rfl,g⟩;obtain⟨a3,c3,rfl⟩:=g.rw.form));obtain⟨K,a6,ag,bu,c2,co,b,bs,C,(I:M _),bw,aD,p2,aP,ah⟩:=CK p D.o;subst C;obtain⟨aH,aN,aM,rfl⟩:=FU g.nd.1;have br:M _:=g.le ad.size;have O:M _:=eX i.ps (s:=[41]) xab;have z:=Q i;clear a bl ai g i bE ad;go_wp2_with (go_at_call 82;refine Otp.call O.o z.o ib (λ_ _ h=>h1 rfl h) ?_;rintro i1 V L bn o B ⟨J,rfl,u,rfl⟩);go_ret;exact o.ret ⟨_,.key3 c.o ab.o bw aD p2 aP ah u,.ch (by first|exact .sel c.o br.o.rw (br.o.ndl.2 0 _ _ rfl rfl) (br.o.ndl.2 1 _ _ rfl rfl) (br.o.ndl.2 2 _ _ rfl rfl)) B j.o⟩ (by rw[x.o,I.o];simp)
theorem kwN{E}(ax:XC E 80 [d6] 2 n)(f:Ps E w (k::R))(bD:R.length<n+1)(H:k.sym=mU\/k.sym=lO):KwC E w k R:=by
 obtain H|H:=H
 all_goals
  have j:=Q f.nw.1
  have a:M _:=lU f H xab
  have bl:M (Otp E w _ _ _ _ [k.sym,[40],d6,[44],fx,[41]] w):=.un f (i0 H)
  have ai:M (∀W,Kept 0 0 w W->_):=λW ae=>lV ax (f.keep ae) bD (by rw[H];decide) (m:=0) xaa
  have c:=Q H
  clear ax f bD H
  unfold KwC
  go_enter func127,ntmps127
  go_upto_region 25 with (first|(go_at_call 48;refine yai a.o ?_;rintro e Z ⟨rfl,ad⟩)|(go_at_call 129;refine Otp.call (ai.o _ ad) bl.o ad (λ_ _ h=>h1 rfl h) ?_;rintro cM aw aM ao i bE ⟨l,ba,G,q,P,(x:M _),(ab:M _),p,(D:M _),rfl,g⟩;obtain⟨a3,c3,rfl⟩:=g.rw.form)|(go_at_call 130;refine Otp.call (nh i.ps (.inr ⟨rfl,rfl⟩)) i ib (λ_ _ h=>h1 rfl h) ?_;rintro ay aN aS a7 r cx ⟨y,ei,(al:M _),(X:M _),(s:M _),rfl⟩;unfold tkV))
  obtain⟨K,C,bw⟩:=nZ p D.o
  subst C
  obtain⟨aH,rfl⟩:=th g.nd.1
  have br:M _:=(g.le ad.size).chg cx (λb e=>ih j.o)
  have O:M _:=eX r.ps (s:=[41]) xab
  have z:=Q r
  clear a bl ai g i bE ad r cx
  go_wp2_with (go_at_call 82;refine Otp.call O.o z.o ib (λ_ _ h=>h1 rfl h) ?_;rintro i1 V L bn o B ⟨J,rfl,u,rfl⟩)
  go_ret
  exact o.ret ⟨_,.keyN (by first|exact .inl c.o|exact .inr c.o) ab.o bw X.o s.o u,.ch (by first|exact .fill c.o br.o.rw (br.o.ndl.2 0 _ _ rfl rfl)|exact .pick c.o br.o.rw (br.o.ndl.2 0 _ _ rfl rfl)) B j.o⟩ (by rw[x.o,al.o];simp)
theorem Nj{E}(ax:XC E 80 [d6] 2 n)(f:Ps E w (k::R))(bD:R.length<n+1)(H:k.sym=sb):KwC E w k R:=by
 have j:=Q f.nw.1;have a:M _:=lU f H xab;have bl:M (Otp E w _ _ _ _ [k.sym,[40],d6,[44],eu,[41]] w):=.un f (i0 H);have ai:M (∀W,Kept 0 0 w W->_):=λW ae=>lV ax (f.keep ae) bD (by rw[H];decide) (m:=0) xaa;have c:=Q H;clear ax f bD H;unfold KwC;go_enter func127,ntmps127;go_upto_region 25 with (first|(go_at_call 48;refine yai a.o ?_;rintro e Z ⟨rfl,ad⟩)|(go_at_call 129;refine Otp.call (ai.o _ ad) bl.o ad (λ_ _ h=>h1 rfl h) ?_;rintro cM aw aM ao i bE ⟨l,ba,G,q,P,(x:M _),(ab:M _),p,(D:M _),rfl,g⟩;obtain⟨a3,c3,rfl⟩:=g.rw.form)|(go_at_call 130;refine Otp.call (nh i.ps (.inl ⟨rfl,rfl⟩)) i ib (λ_ _ h=>h1 rfl h) ?_;rintro ay aN aS a7 r cx ⟨y,ei,(al:M _),(X:M _),(s:M _),rfl⟩;unfold tkV));obtain⟨K,C,bw⟩:=nZ p D.o;subst C;obtain⟨aH,rfl⟩:=th g.nd.1;have br:M _:=(g.le ad.size).chg cx (λb e=>ih j.o);have O:M _:=eX r.ps (s:=[41]) xab;have z:=Q r;clear a bl ai g i bE ad r cx;go_wp2_with (go_at_call 82;refine Otp.call O.o z.o ib (λ_ _ h=>h1 rfl h) ?_;rintro i1 V L bn o B ⟨J,rfl,u,rfl⟩);go_ret;exact o.ret ⟨_,.grad c.o ab.o bw X.o s.o u,.ch (by first|exact .grad br.o.rw (br.o.ndl.2 0 _ _ rfl rfl)) B j.o⟩ (by rw[x.o,al.o];simp)
theorem Pd{E}(ax:XC E 80 [d6] 2 n)(f:Ps E w (k::R))(bD:R.length<n+1)(H:k.sym=vy):KwC E w k R:=by
 have j:=Q f.nw.1;have a:M _:=lU f H xab;have bl:M (Otp E w _ _ _ _ [k.sym,[40],d6,[44],fx,[44],fx,[41]] w):=.un f (i0 H);have ai:M (∀W,Kept 0 0 w W->_):=λW ae=>lV ax (f.keep ae) bD (by rw[H];decide) (m:=0) xaa;have c:=Q H;clear ax f bD H;unfold KwC;go_enter func127,ntmps127;go_upto_region 25 with (first|(go_at_call 48;refine yai a.o ?_;rintro e Z ⟨rfl,ad⟩)|(go_at_call 129;refine Otp.call (ai.o _ ad) bl.o ad (λ_ _ h=>h1 rfl h) ?_;rintro cM aw aM ao i bE ⟨l,ba,G,q,P,(x:M _),(ab:M _),p,(D:M _),rfl,g⟩;obtain⟨a3,c3,rfl⟩:=g.rw.form)|(go_at_call 130;refine Otp.call (nh i.ps (.inr ⟨rfl,rfl⟩)) i ib (λ_ _ h=>h1 rfl h) ?_;rintro ay aN aS a7 r cx ⟨y,ei,(al:M _),(X:M _),(s:M _),rfl⟩;unfold tkV)|(go_at_call 130;refine Otp.call (nh r.ps (.inr ⟨rfl,rfl⟩)) r ib (λ_ _ h=>h1 rfl h) ?_;rintro am Y aC aA F bL ⟨T,I,(ag:M _),(cO:M _),(S:M _),rfl⟩;unfold tkV));obtain⟨K,C,bw⟩:=nZ p D.o;subst C;obtain⟨aH,rfl⟩:=th g.nd.1;have br:M _:=(g.le ad.size).chg (cx.andThen bL:Ch E _ _) (λb e=>ih j.o);have O:M _:=eX F.ps (s:=[41]) xab;have z:=Q F;clear a bl ai g i bE ad r cx F bL;go_wp2_with (go_at_call 82;refine Otp.call O.o z.o ib (λ_ _ h=>h1 rfl h) ?_;rintro i1 V L bn o B ⟨J,rfl,u,rfl⟩);go_ret;exact o.ret ⟨_,.put c.o ab.o bw X.o s.o cO.o S.o u,.ch (by first|exact .put br.o.rw (br.o.ndl.2 0 _ _ rfl rfl)) B j.o⟩ (by rw[x.o,al.o,ag.o];simp)
theorem Pf{E}(ax:XC E 80 [d6] 2 n)(f:Ps E w (k::R))(bD:R.length<n+1)(H:k.sym=xD):KwC E w k R:=by
 have j:M (E.P<w.heap.size):=f.nw.1;have a:M _:=lU f H xab;have bl:M (Otp E w (k::R) [fo] [] (k::R) [k.sym,[40],d6,[44],d6,[41]] w):=.un f (i0 H);have ai:M (∀W,Kept 0 0 w W->_):=λW ae=>lV ax (f.keep ae) bD (by rw[H];decide) (m:=1) xaa;have c:=Q H;clear ax f bD H;unfold KwC;go_enter func127,ntmps127;go_upto_region 25 with (first|(go_at_call 48;refine yai a.o ?_;rintro e Z ⟨rfl,ad⟩)|(go_at_call 129;refine Otp.call (ai.o _ ad) bl.o ad (λ_ _ h=>h1 rfl h) ?_;rintro cM aw aM ao i bE ⟨l,ba,G,q,P,(x:M _),(ab:M _),p,(D:M _),rfl,g⟩;obtain⟨a3,c3,rfl⟩:=g.rw.form));obtain⟨K,a6,bu,c2,co,C,(I:M _),bw,aD,p2⟩:=wv p D.o;subst C;obtain⟨aH,aN,rfl⟩:=FT g.nd.1;have br:M _:=g.le ad.size;have aL:=dE 0 0 ao (.cells #[h0 k.pos,.slice a3 2 c3] 190);have y:=dE 0 0 (ao.alloc (.cells #[h0 k.pos,.slice a3 2 c3] 190)) (.cells #[.iface 192 (.agg #[h0 k.pos,.slice a3 2 c3,h0 4])] 134);have z:M _:=i.keep (aL.trans y);have O:M _:=eX z.o.ps (s:=[41]) xab;have T:=Q aL;have s:=Q y;have bY:=Q i.ch.size;clear a bl ai g i bE ad aL y;go_wp2_with (go_at_call 82;refine Otp.call O.o z.o ib (λ_ _ h=>h1 rfl h) ?_;rintro i1 V L bn o B ⟨J,rfl,u,rfl⟩);go_ret;exact o.ret ⟨.key2 k K a6,.key2 (.inr c.o) ab.o bw aD p2 u,.ch (.dot c.o (by have h:=wo (ao.alloc (.cells #[h0 k.pos,.slice a3 2 c3] 190)) w.heap.size [.iface 192 (.agg #[h0 k.pos,.slice a3 2 c3,h0 4])] (yan bY.o T.o.size) xac;rw[show(ao.alloc (.cells #[h0 k.pos,.slice a3 2 c3] 190)).heap.size=ao.heap.size+1 by simp]at h;exact h) (.bin (o:=⟨[42],k.pos,k.text⟩) ((br.o.rw.keep T.o).keep s.o) (((br.o.ndl.2 0 _ _ rfl rfl).keep T.o).keep s.o) (((br.o.ndl.2 1 _ _ rfl rfl).keep T.o).keep s.o))) B j.o⟩ (by rw[x.o,I.o];simp)
theorem Pg{E}(ax:XC E 80 [d6] 2 n)(f:Ps E w (k::R))(bD:R.length<n+1)(H:k.sym=zh):KwC E w k R:=by
 have j:=Q f.nw.1;have a:M _:=lU f H xab;have bl:M (Otp E w _ _ _ _ (jST k++[[41]]) w):=.un f (by rw[jST,H];rfl);have ai:M (∀W,Kept 0 0 w W->_):=λW ae=>zP ax (f.keep ae) bD (by rw[H];decide);have c:=Q H;clear ax f bD H;unfold KwC;go_enter func127,ntmps127;go_upto_region 25 with (first|(go_at_call 48;refine yai a.o ?_;rintro e Z ⟨rfl,ad⟩)|(go_at_call 131;refine Otp.call (ai.o _ ad) bl.o ad (λ_ _ h=>h1 rfl h) ?_;rintro cM aw aM ao i bE ⟨l,ba,c1,bB,c2,bu,K,aW,(x:M _),(ab:M _),bw,(bG:M _),(cG:M _),(aD:M _),p2,g⟩));have br:M _:=g.fr ad.size;have O:M _:=eX i.ps (s:=[41]) xab;have z:=Q i;clear a bl ai g i bE ad;go_wp2_with (go_at_call 82;refine Otp.call O.o z.o ib (λ_ _ h=>h1 rfl h) ?_;rintro i1 V L bn o B ⟨J,rfl,u,rfl⟩);go_ret;exact o.ret ⟨_,.jvp c.o ab.o bw bG.o cG.o aD.o p2 u,br.o.ch B j.o⟩ (by rw[x.o];simp)
