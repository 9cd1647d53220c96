import Derived.Test.YtkjahdegnkmejaaGreatP13
import Derived.Test.YtkjahdegnkmejaaGreatP22
namespace Go.Proofs.Z
variable{Zp:Prop}
open Tryz Go.RowKit Flt
set_option maxRecDepth 1000000
set_option maxHeartbeats 0
section
attribute[local go_sem] eE eC eB
variable{x y:List UInt8}{P I cap:Nat}{ts:List Tok}{a:Option Addr}{u1 u2 u3 u4:Value}{vs:List Vl}{st:LSt}{bs:List Bc}
def opQ(x y:List UInt8)(ts:List Tok)(k:Nat):OpS:=jl x y ⟨0,0,-1,false⟩ (ts.take k)
theorem Ph{k}(h:k<=ts.length):(opQ x y ts k).i=k:=by
 unfold opQ;rw[O8,List.length_take];show 0+_=_;omega
theorem Pi{k}(h:k<ts.length):(opQ x y ts (k+1)).b=iR (ts.getD k i1).sym:=by
 unfold opQ;rw[tr x y _ _ k h,P5]
theorem F6{k}(h:k<ts.length):opQ x y ts (k+1)=ir x y (opQ x y ts k) (ts.getD k i1):=tr x y _ ts k h
theorem NF{k:Nat}:-((k:Int))<=(opQ x y ts k).d/\(opQ x y ts k).d<=k:=by
 have h:=O9 x y (ts.take k) ⟨0,0,-1,false⟩;have N:(ts.take k).length<=k:=by rw[List.length_take];omega
 unfold opQ;simp only at h;omega
theorem fI(W g an m cap ts)(f:TkA W g an m ts)(aD:m<=5000)(x y):
  Calls prog 113 #[.slice (some ⟨g,an,none⟩) m cap,eL x,eL y] W λe F=>e=.returned (ih (opM x y ts))/\F=W:=by
 have aO:V _:=f;have HL:V _:=f.len;have HE:V (opM x y ts=(opQ x y ts m).at_):=by show _=_;unfold opM opQ;rw[<-f.len,List.take_length]
 clear f;rw[HE.o];go_enter func113,ntmps113;go_wp2_with fail;go_loopw [7,8,9] (λK bU G F=>F=W/\∃k:Nat,k<=m/\G=ih k/\K=ih (opQ x y ts k).d/\bU=ih (opQ x y ts k).at_) (λ_ _ G _=>m-(intOf G).toNat)
 case atStart=>exact⟨rfl,0,yae,rfl,rfl,rfl⟩
 case round=>
  obtain⟨rfl,k,J,rfl,rfl,rfl⟩:=hrel;by_cases aY:k<m
  ·have cW:k<ts.length:=by rw[HL.o];exact aY
   have c0:=aO.o.c0 k aY;have aG:V _:=F6 (x:=x) (y:=y) cW;have bj:=NF (x:=x) (y:=y) (ts:=ts) (k:=k);have hi:=Ph (x:=x) (y:=y) (ts:=ts) (k:=k) xaa;have v:V (k=0->(opQ x y ts k).b=false):=λh=>by subst h;rfl
   have ao:V (∀q,k=q+1->(opQ x y _ k).b=iR (ts.getD q _).sym):=λq h=>by subst h;exact Pi xaa
   have aw:V (∀q,k=q+1->_):=λq h=>aO.o.c0 q xaa;generalize opQ x y _ k=Q at aG bj hi v ao⊢;generalize ts.getD k _=aa at c0 aG;obtain⟨l,d,a,b⟩:=Q;simp only at bj hi aG v ao⊢;subst hi;by_cases B:aa.sym=[40]
   ·have H:V (opQ x y _ _=⟨l+1,d+1,a,_⟩):=aG.o.trans (we B);have aW:(aa.sym==[40])=true:=by rw[B];rfl
    have aV:IntKind.i64.wrap (d+1)=d+1:=by rw[IntKind.wrap_i64];omega
    generalize aa.sym=s at c0 aW;clear B aG v ao aw cW;exact xdy
   by_cases N:aa.sym=[41]
   ·have H:V (opQ x y _ _=⟨l+1,d-1,a,_⟩):=aG.o.trans (wg N);have aW:=yax B;have bd:(aa.sym==[41])=true:=by rw[N];rfl
    have aV:IntKind.i64.wrap (d-1)=d-1:=by rw[IntKind.wrap_i64];omega
    generalize aa.sym=s at c0 aW bd;clear B N aG v ao aw cW;exact xdy
   have aW:=yax B;have bd:=yax N;have HO:V (¬(d=0/\b=true/\(aa.sym=x\/aa.sym=y))->opQ x y _ _=⟨l+1,d,a,_⟩):=λh=>aG.o.trans (mG B N h);have aT:V ((d=0/\b=true/\(aa.sym=x\/aa.sym=y))->opQ x y _ _=⟨l+1,d,l,_⟩):=λh=>aG.o.trans (wi B N h);clear aG B N;generalize iR _=bv at HO aT;generalize aa.sym=s at c0 aW bd HO aT;by_cases aN:d=0
   ·subst aN;cases l with
    |zero=>
     have H:V _:=HO.o (λc=>by have:=v.o rfl;rw[this]at c;exact absurd c.2.1 xac);clear v ao aw cW HO aT;rw[Nat.zero_mul,Nat.add_zero]at c0;go_wp2_with fail;go_roundw;exact⟨trivial,0+1,by omega,by go_num,by rw[H.o],by rw[H.o]⟩;simp[intOf];omega
    |succ q=>
     have hb:=ao.o q rfl;have c1:=aw.o q rfl;generalize (ts.getD q _).sym=ps at hb c1;have t:V _:=hb;clear hb v ao aw cW;have aV:IntKind.i64.wrap ((q+1:Nat)-1)=q:=by rw[IntKind.wrap_i64];omega
     have bg:(0:Int)<(q:Nat)+1:=xaa;cases br:(s==x)
     ·have u:s≠x:=λc=>by rw[c]at br;simp at br
      cases r:(s==y)
      ·have z:s≠y:=λc=>by rw[c]at r;simp at r
       have H:V _:=HO.o (λc=>c.2.2.elim u z);clear u z HO aT c1;go_wp2_with fail;go_roundw;exact⟨trivial,q+1+1,by omega,by go_num,by rw[H.o],by rw[H.o]⟩;simp[intOf];omega
      have w:s=y:=by simpa using r
      have bl:V (iR _=false->_):=λh=>HO.o (λc=>by rw[t.o,h]at c;exact absurd c.2.1 xac);have j:V _:=λh=>aT.o ⟨rfl,t.o.trans h,.inr w⟩;clear u w HO aT t;cases bG:(ps==[110,97,109,101])
      case true=>
       have H:V _:=j.o (by show iR ps=_;unfold iR gz ik kK;rw[bG];rfl);clear bl j;go_wp2_with fail;go_roundw;exact⟨trivial,q+1+1,by omega,by go_num,by rw[H.o],by rw[H.o]⟩;simp[intOf];omega
      case false=>
       cases bn:(ps==[105,110,116])
       case true=>
        have H:V _:=j.o (by show iR ps=_;unfold iR gz ik kK;rw[bG,bn];rfl);clear bl j;go_wp2_with fail;go_roundw;exact⟨trivial,q+1+1,by omega,by go_num,by rw[H.o],by rw[H.o]⟩;simp[intOf];omega
       case false=>
        cases p2:(ps==[100,101,99])
        case true=>
         have H:V _:=j.o (by show iR ps=_;unfold iR gz ik kK;rw[bG,bn,p2];rfl);clear bl j;go_wp2_with fail;go_roundw;exact⟨trivial,q+1+1,by omega,by go_num,by rw[H.o],by rw[H.o]⟩;simp[intOf];omega
        case false=>
         cases bb:(ps==[41])
         case true=>
          have H:V _:=j.o (by show iR ps=_;unfold iR gz ik kK;rw[bG,bn,p2,bb];rfl);clear bl j;go_wp2_with fail;go_roundw;exact⟨trivial,q+1+1,by omega,by go_num,by rw[H.o],by rw[H.o]⟩;simp[intOf];omega
         case false=>
          have H:V _:=bl.o (by show iR ps=_;unfold iR gz ik kK;rw[bG,bn,p2,bb];rfl);clear bl j;go_wp2_with fail;go_roundw;exact⟨trivial,q+1+1,by omega,by go_num,by rw[H.o],by rw[H.o]⟩;simp[intOf];omega
     have cd:s=x:=by simpa using br
     have bl:V (iR _=false->_):=λh=>HO.o (λc=>by rw[t.o,h]at c;exact absurd c.2.1 xac);have j:V _:=λh=>aT.o ⟨rfl,t.o.trans h,.inl cd⟩;clear cd HO aT t;cases bG:(ps==[110,97,109,101])
     case true=>
      have H:V _:=j.o (by show iR ps=_;unfold iR gz ik kK;rw[bG];rfl);clear bl j;go_wp2_with fail;go_roundw;exact⟨trivial,q+1+1,by omega,by go_num,by rw[H.o],by rw[H.o]⟩;simp[intOf];omega
     case false=>
      cases bn:(ps==[105,110,116])
      case true=>
       have H:V _:=j.o (by show iR ps=_;unfold iR gz ik kK;rw[bG,bn];rfl);clear bl j;go_wp2_with fail;go_roundw;exact⟨trivial,q+1+1,by omega,by go_num,by rw[H.o],by rw[H.o]⟩;simp[intOf];omega
      case false=>
       cases p2:(ps==[100,101,99])
       case true=>
        have H:V _:=j.o (by show iR ps=_;unfold iR gz ik kK;rw[bG,bn,p2];rfl);clear bl j;go_wp2_with fail;go_roundw;exact⟨trivial,q+1+1,by omega,by go_num,by rw[H.o],by rw[H.o]⟩;simp[intOf];omega
       case false=>
        cases bb:(ps==[41])
        case true=>
         have H:V _:=j.o (by show iR ps=_;unfold iR gz ik kK;rw[bG,bn,p2,bb];rfl);clear bl j;go_wp2_with fail;go_roundw;exact⟨trivial,q+1+1,by omega,by go_num,by rw[H.o],by rw[H.o]⟩;simp[intOf];omega
        case false=>
         have H:V _:=bl.o (by show iR ps=_;unfold iR gz ik kK;rw[bG,bn,p2,bb];rfl);clear bl j;go_wp2_with fail;go_roundw;exact⟨trivial,q+1+1,by omega,by go_num,by rw[H.o],by rw[H.o]⟩;simp[intOf];omega
   have H:V _:=HO.o (λc=>aN c.1);have hd0:=yax aN;clear v ao aw cW HO aT aN;exact xdy
  obtain rfl:k=m:=xaa;go_wp2_with fail;go_ret;exact⟨rfl,rfl⟩
theorem Pj(l k h):(((⟨l.toArray⟩:ByteArray)[k]'h).toNat:Int)=bt l k:=by
 have J:k<l.length:=by rw[<-fX];exact h
 unfold bt;rw[yai,yam J];rfl
theorem uX(l k)(h:k<l.length):ii (l.take (k+1))=ii (l.take k)*10+(bt l k-48):=by
 unfold ii;rw[yau h,List.foldl_append];unfold bt;simp_all
theorem uY{l}(h:Dgs l):∀k,k<=l.length->0<=ii (l.take k)/\ii (l.take k)<10 ^ k
 |0,_=>by rw[List.take_zero];exact⟨by decide,by decide⟩
 |k+1,J=>by
  have Z:=uY h k xaa
  have aN:=h.d k xaa
  rw[uX l k xaa,Int.pow_succ]
  omega
theorem Pk:∀k:Nat,k<=15->(10:Int) ^ k<=1000000000000000:=by
 intro k J;have:∀k:Fin 16,(10:Int) ^ k.1<=1000000000000000:=xab;exact this ⟨k,by omega⟩
theorem pD{l}(h:Dgs l){k}(J:k<=l.length):0<=ii (l.take k)/\ii (l.take k)<1000000000000000:=by
 have B:=uY h k J;have N:=Pk k (i4 h.len);omega
theorem yZ(t)(h:Dgs t.text)(W):Calls prog 104 #[iS t] W λe F=>e=.returned (ih (ii t.text))/\Kept 0 0 W F:=by
 obtain⟨aW,ps,l⟩:=t;simp only at h⊢;unfold iS;simp only;have HD:V _:=h;have ag:=h.len;have ao:V _:=gY W aW ps l;have HK:V _:=eA 0 0 W (.cells #[eL aW,ih ps,eL l] 127);have aw:=fX l;clear h;go_enter func104,ntmps104;go_wp2_with fail;change Code.wp _ _ _ _ (W.alloc (.cells _ 127));generalize W.alloc _=aq at ao HK⊢;have aP:=ao.o.c2;go_loopw [3,4] (λv G F=>F=aq/\∃k:Nat,k<=l.length/\G=ih k/\v=ih (ii (l.take k))) (λ_ G _=>l.length-(intOf G).toNat)
 case atStart=>exact⟨rfl,0,yae,rfl,rfl⟩
 case round=>
  obtain⟨rfl,k,J,rfl,rfl⟩:=hrel;by_cases aY:k<l.length
  ·have bK:=Pj l k;have aN:=HD.o.d k aY;have hb:=pD HD.o J;have H:V _:=uX l k aY;generalize bt l k=x at bK aN H;generalize ii _=v at hb H⊢;have aV:IntKind.i64.wrap (v*10)=v*10:=by rw[IntKind.wrap_i64];omega
   have bg:IntKind.u8.wrap (x-48)=x-48:=by grind[IntKind.wrap,IntKind.bits]
   have bq:IntKind.i64.wrap (v*10+(x-48))=v*10+(x-48):=by rw[IntKind.wrap_i64];omega
   have bB:IntKind.i64.wrap (x-48)=x-48:=by rw[IntKind.wrap_i64];omega
   have cF:(k:Int)<l.length:=xaa;go_wp2_with fail;go_roundw;exact⟨trivial,k+1,by omega,by go_num,by rw[H.o]⟩;simp[intOf];omega
  obtain rfl:k=l.length:=xaa;have cF:¬((l.length:Int)<l.length):=xaa;go_wp2_with fail;go_ret;exact⟨rfl,HK.o⟩
theorem aZ.qbq(h:Zp:=by
 have F:g9≠P:=λe=>by
  subst e
  rcases bf with c|c
  ·exact p2 c
  ·have:=h.lt;omega
 have ae:(Value.slice _ _ _).ownBlock≠some P:=λc=>F ((l P).1 c);have am:∀o,_:=λo=>aX.cell (p:=⟨P,o,none⟩) h.lt p2;have es:∀o,o≠1->(a7.setCell ⟨P,1,_⟩ (ia g9 n9 cap9)).cell? _=W.cell? _:=λo aR=>(eG _ _ _ _ _ _ (.inr (λe=>aR e.symm))).trans (am o);have U:=(eU (lo:=P) (hi:=P+1) a7 ⟨P,1,none⟩ (ia g9 n9 cap9) yac)
 have an:Mv (Mst P u1 u2 u3 u4) W (Mst P u1 (ia g9 n9 cap9) u3 u4) (a7.setCell ⟨P,1,none⟩ (ia g9 n9 cap9)):=by
  refine⟨Chg.andThen ⟨aX.os,aX.tape,aX.output,aX.size,λi hi hn=>aX.block i hi (λc=>hn (.inr (.inr (.inl c))))⟩ (U.chg1 (.inl rfl)),λb hb=>?_⟩;rcases hb with c|c|c|c|c
  ·exact .inl (.inl c)
  ·exact .inl (.inr (.inl c))
  ·rw[l]at c;subst c;rcases bf with d|d
   ·exact .inl (.inr (.inr (.inl d)))
   omega
  ·exact .inl (.inr (.inr (.inr (.inl c))))
  exact .inl (.inr (.inr (.inr (.inr c))))
 exact qee):Zp:=h
theorem aZ.qef(h:Zp:=by
 refine⟨⟨by simpa using yak h.lt aX.size,λo=>?_,(es 0 xab).trans h.c0,fc _ _ _ _ _ ((am 1).trans h.c1),(es 2 xab).trans h.c2,(es 3 xab).trans h.c3,(es 4 xab).trans h.c4,(es 5 xab).trans h.c5,(es 6 xab).trans h.c6,?_,?_,?_,?_,⟨bn,ae,bb,j⟩,⟨bp h.r1 m,g,q,(bp h.r3 w.symm).symm,(bp h.r4 r.symm).symm,z⟩,h.nl,λi hi=>(h.nb i hi).mv an,h.sz⟩,an⟩
 ·have:=(aX.frozen h.lt p2).trans (h.fr o);simp[this]
 ·exact eH (eQ h.r1 aX (λb hb c=>m b hb c)) bn
 ·subst hn;exact eH bi ae
 ·exact eH (eQ h.r3 aX (λb hb c=>w b c hb)) bb
 exact eH (eQ h.r4 aX (λb hb c=>r b c hb)) j):Zp:=h
open aZ in
theorem WS.vals{W a7}(h:WS W P I u1 u2 u3 u4 bs st)(aX:Chg (λb=>u2.ownBlock=some b) W a7){g9 n9 cap9}(hn:n9=vs.length)(bi:a7.ownsRow I 79 6 (ia g9 n9 cap9) n9 (fU vs))(bf:u2.ownBlock=some g9\/W.heap.size<=g9):
  WS (a7.setCell ⟨P,1,none⟩ (ia g9 n9 cap9)) P I u1 (ia g9 n9 cap9) u3 u4 bs {st with vs:=vs}/\Mv (Mst P u1 u2 u3 u4) W (Mst P u1 (ia g9 n9 cap9) u3 u4) (a7.setCell ⟨P,1,none⟩ (ia g9 n9 cap9)):=by
 exact qbp
theorem ja{W:World}{e s n:Nat}{v xs}(f:W.ownsRow I e s v n xs):∃a cap,v=.slice a n cap:=by
 rcases f.2 with⟨e,c⟩|⟨g,cap,ao,e,_⟩<;>grind
theorem xu{W n xs}(f:W.ownsRow I 3 1 (.slice a n cap) n (xs.map (Value.int .i64)))(ag:xs.length=n):IS W 0 W.heap.size a n xs:=by
 refine⟨ag,?_⟩;rcases f.2 with⟨_,c⟩|⟨g,c,ao,e,R,a6,U,_,ct,b2⟩
 ·exact .inl c
 cases e;have az:g<W.heap.size:=by grind
 refine .inr ⟨g,0,rfl,yae,az,az,λk J=>?_⟩;rw[Nat.zero_add,cell_of_row W g _ _ _ _ a6,<-Array.getElem?_toList];exact xit
theorem F7{W n}(f:W.ownsRow I 79 6 (.slice a n cap) n (fU vs))(ag:vs.length=n)(J:∀v∈vs,v.k<18446744073709551616):VS W 0 W.heap.size a n vs:=by
 by_cases aj:n=0
 ·exact⟨ag,J,.inl aj⟩
 obtain⟨g,c,e,R,a6,_,bZ⟩:=mV f xaa ag;cases e;exact bZ.vs J
theorem WS.gs{W}(h:WS W P I u1 u2 u3 u4 bs st)(J:∀v∈st.vs,v.k<18446744073709551616):∃a1 c1 K c2 a3 c3,u1=.slice a1 st.ins.length c1/\u2=.slice K st.vs.length c2/\u3=.slice a3 st.outs.length c3/\GS W a1 st.ins.length K st.vs.length a3 st.outs.length st.ins st.vs st.outs:=by
 obtain⟨a1,c1,ad⟩:=ja h.r1;obtain⟨K,c2,be⟩:=ja h.r2;obtain⟨a3,c3,ah⟩:=ja h.r3;refine⟨_,_,_,_,_,_,ad,be,ah,⟨xu (by have:=h.r1;rw[ad]at this;exact this) rfl,F7 (by have:=h.r2;rw[be]at this;exact this) rfl J,xu (by have:=h.r3;rw[ah]at this;exact this) rfl⟩⟩
structure Gd(st:LSt):Prop where
 n:st.vs.length<=2000
 c:eY st.vs<=50000
 ok:(List.range st.vs.length).all (okV st.ins st.vs)=true
 k:∀v∈st.vs,v.k<18446744073709551616
 i:st.ins.length<=20
 o:st.outs.length<=50
 m:st.names.length<=5000
theorem Gd.len(h:Gd st):∀k,k<st.vs.length->1<=(st.vs.getD k i0).len/\(st.vs.getD k i0).len<=1000:=λk J=>by
 have B:=List.all_eq_true.1 h.ok k (List.mem_range.2 J)
 exact of_decide_eq_true (sQ B)
theorem y8{v}(h:∀k,k<vs.length->1<=(vs.getD k i0).len/\(vs.getD k i0).len<=1000)(aL:1<=v.len/\v.len<=1000):∀k,k<(vs++[v]).length->1<=((vs++[v]).getD k i0).len/\((vs++[v]).getD k i0).len<=1000:=λk J=>by
 grind
theorem tK{v}(h:∀u∈vs,u.k<18446744073709551616)(aL:v.k<18446744073709551616):∀u∈vs++[v],u.k<18446744073709551616:=λu G=>by
 grind
theorem S.qas(h:Zp:=by
 go_region_law
  ((refine step_append_lies _ rfl (.tmp 12) (.tmp 14) 71 rfl I 79 bY (qL 0 0 0 0 0 0) 6 48 underlying71 hi cg b8 cc rfl xab _ _ (fU st.vs) (by simp[Act.eval]) (kN bi.o 1 _) ⟨aK.heap.size,0,none⟩ 1 1 v.cells (by simp[Act.eval]) rfl (Bw _ _ _) (EP v) xab (by unfold maxLen;omega) xaa yag _ rfl ?_;intro g9 cap9 a7 Z bp br cr;have a0:=jS bp cx HR.o.1 c1;have bT:=far2 bp cx HR.o.1 cD;have av:=jS bp b HR.o.2 B;have aT:=jS bp b HR.o.2 bf;have G:=jS bp b HR.o.2 bb;have cB:=jS bp b HR.o.2 bc;have ck:=jS bp b HR.o.2 C;have aq:=jS bp b HR.o.2 au))
 all_goals
  have bE:=br.imp id (λe=>Nat.le_of_eq e.symm)
  have aV:=(eA 0 0 aK (.cells #[ih v.op,ih v.len,ih v.a,ih v.b,ih v.c,.float .f64 v.k] 79)).trans (eJ 0 0 _ 1)
  have d:a7.ownsRow I 79 6 (ia g9 (aZ+1) cap9) (aZ+1) (fU (st.vs++[v])):=by rw[mi,qe];exact Z
  obtain⟨(u:V _),af⟩:=(b4.o.keep aV).vals (fA bp) (by rw[yal,bu.o];rfl) d bE
  have bn:V _:=(aH.o.keep aV).trans af
  clear af bE aV Z d bp br cr a0 bT av aT G cB ck aq B bf bb bc C au cD c1 bi b4 aH
  generalize a7.setCell ⟨P,1,_⟩ _=cA at u bn⊢
  obtain⟨a1,bH,a2',bJ,a3,cb,ad,be,ah,N⟩:=u.o.gs bN.o
  simp only at ad ah N
  subst ad ah
  have aO:V _:=AN _ _ _ _ _ bH _ bJ _ cb _ _ _ N aC.o
  have l:(st.vs++[v]).length=aZ+1:=by grind
  have bD:V _:=λF=>iV F a1 a2' a3 st.ins.length bH (aZ+1) bJ st.outs.length cb xaa
  rw[l]at aO be
  clear N
  have a8:=u.o.c0
  have aJ:=u.o.c1
  have aP:=u.o.c2
  cases be
  cases hb:kq (st.vs++[v])
  ·rw[hb]at aO b1
   have ae:V _:=b1.o.trans (ip xac)
   have f:V (∀F,Kept 0 0 _ F->F.cell? _=some _/\F.cell? _=some _/\F.cell? _=some _):=λF k=>⟨(u.o.keep k).c0,(u.o.keep k).c1,(u.o.keep k).c2⟩
   clear hb b1
   go_wp2_with (first
    |(go_at_call 120;refine yaj aO.o ?_;rintro e cP ⟨rfl,Y⟩;obtain⟨aU,ax,aF⟩:=f.o _ Y)
    |(go_at_call 66;refine yaj (bD.o _) ?_;rintro e b0 ⟨rfl,aa⟩))
   go_ret
   rw[ae.o]
   exact⟨by simp,_,_,_,_,(u.o.keep Y).keep aa,(bn.o.keep Y).keep aa⟩
  ·rw[hb]at aO b1
   have ae:V _:=b1.o.trans (iv rfl)
   have bo:V (∀F,Kept 0 0 _ F->_):=λF k=>jp (u.o.keep k).c5 (u.o.keep k).c6 (u.o.keep k).fr 5 p (Mst P (.slice a1 st.ins.length bH) (ia g9 (aZ+1) cap9) (.slice a3 st.outs.length cb) u4) (.inl rfl)
   clear hb b1
   go_wp2_with (first
    |(go_at_call 120;refine yaj aO.o ?_;rintro e cP ⟨rfl,Y⟩)
    |(go_at_call 101;refine yaj (bo.o _ Y) ?_;rintro e b0 ⟨rfl,ba⟩))
   go_ret
   rw[ae.o]
   exact⟨rfl,ba.c5,ba.c6,(bn.o.keep Y).bad ba.chg⟩):Zp:=h
open S in
theorem lV{W}(h:WS W P I u1 u2 u3 u4 bs st)(g:Gd st)(v)(aL:1<=v.len/\v.len<=1000)(ak:v.k<18446744073709551616)(p:Nat):
  Calls prog 105 #[ge P,v.agg,ih p] W (TrO W P I u1 u2 u3 u4 bs (fQ st v p)):=by
 exact qar
end
section
variable{n:Int}{p i:Nat}{st:LSt}{r:List Nat}
theorem F8{vs}(h:kq vs=false):vs.length<=2000/\eY vs<=50000:=by
 grind[kq]
theorem Gd.put{st}(g:Gd st){v}(aL:okV st.ins (st.vs++[v]) st.vs.length=true)(J:v.k<18446744073709551616)(ag:kq (st.vs++[v])=false):Gd {st with vs:=st.vs++[v]}:=by
 obtain⟨B,N⟩:=F8 ag;refine⟨B,N,?_,tK g.k J,g.i,g.o,g.m⟩;rw[List.all_eq_true];intro i hi;have hi':=List.mem_range.1 hi;simp only[yal,List.length_singleton]at hi';by_cases c:i<st.vs.length
 ·exact rS c (List.all_eq_true.1 g.ok i (List.mem_range.2 c))
 grind
theorem Gd.lenB(g:Gd st)(h:i<st.vs.length):1<=eW st i/\eW st i<=1000:=g.len i h
theorem xv(ins vs v)(aj:v.op≠0)(ag:1<=v.len/\v.len<=1000)(aw:fL v=true)(aR:∀o∈fp v,0<=o/\o<(vs.length:Int))(d:eV v.op v.len v.c ((fp v).map λo=>(vs.getD o.toNat i0).len)=true):okV ins (vs++[v]) vs.length=true:=by
 have aL:(vs++[v]).getD vs.length i0=v:=by simp_all
 have aD:((fp v).map λo=>((vs++[v]).getD o.toNat i0).len)=((fp v).map λo=>(vs.getD o.toNat i0).len):=by
  apply List.map_congr_left;intro o b;have:=aR o b;grind
 grind[okV,lenB,gn]
theorem uZ(st)(xs:List Nat)(k)(h:k<xs.length):pB st (xs.take (k+1))=if pB st (xs.take k)<eW st (xs.getD k 0)then eW st (xs.getD k 0)else pB st (xs.take k):=by
 unfold pB;rw[yau h,List.foldl_append,yai,yam h];rfl
theorem xw{st}(g:Gd st)(xs:List Nat)(aH:∀i∈xs,i<st.vs.length):∀k,k<=xs.length->1<=pB st (xs.take k)/\pB st (xs.take k)<=1000
 |0,_=>by simp_all[pB]
 |k+1,J=>by
  have Z:=xw g _ aH k xaa
  have aD:xs.getD k 0∈xs:=by grind
  have:=g.lenB (aH _ aD)
  rw[uZ _ _ k xaa]
  omega
def tL(js:List Nat)(r:Rs (LSt×List Nat)):Rs (LSt×List Nat):=
 match r with
 |.error f=>.error f
 |.ok (s,ks)=>.ok (s,js++ks)
theorem F9(r):tL [] r=r:=by
 cases r with
 |error f=>rfl
 |ok x=>rfl
theorem om(h:¬eW st i<n):iw n p st (i::r)=tL [i] (iw n p st r):=by
 rw[iw,ip h];cases iw n p st r with
 |error f=>rfl
 |ok x=>rfl
theorem pt{w j}(h:eW st i<n)(aA:fQ st (eK 10 n (i:Int) 0 0) p=.ok (w,j)):iw n p st (i::r)=tL [j] (iw n p w r):=by
 rw[iw,iv h,aA];simp only;cases iw n p w r with
 |error f=>rfl
 |ok x=>rfl
theorem pw{f}(h:eW st i<n)(aA:fQ st (eK 10 n (i:Int) 0 0) p=.error f):iw n p st (i::r)=.error f:=by
 rw[iw,iv h,aA]
theorem ve(a b r):tL a (tL b r)=tL (a++b) r:=by
 cases r<;>grind[tL]
theorem J3(hi:i<st.vs.length)(B:eW st i=1)(hn:1<=n/\n<=1000):okV st.ins (st.vs++[eK 10 n (i:Int) 0 0]) st.vs.length=true:=by
 refine xv _ _ _ (show 10≠0 by decide) hn (by rfl) ?_ ?_
 ·grind[fp]
 simp_all[fp,eW,cnt,eV]
end
section
attribute[local go_sem] eE eC eB
variable{P I n:Nat}{u1 u2 u3 u4:Value}{a:Option Addr}{bs:List Bc}{st:LSt}{s:List UInt8}
structure LcR(M:Nat->Prop)(W:World)(a:Option Addr)(n:Nat)(loc:Loc):Prop where
 len:loc.length=n
 at_:0<n->∃g off,a=some ⟨g,off,none⟩/\¬M g/\g<W.heap.size/\∀k,k<n->W.cell? ⟨g,off+k*2,none⟩=some (eL (loc.getD k ([],0)).1)/\W.cell? ⟨g,off+k*2+1,none⟩=some (.int .i64 ((loc.getD k ([],0)).2:Int))
theorem LcR.mv{M M' W F u}(h:LcR M W a n u)(k:Mv M W M' F):LcR M' F a n u:=
 ⟨h.len,λhn=>by
  obtain⟨g,an,e,B,N,h3⟩:=h.at_ hn
  exact⟨g,_,e,λc=>(k.new g c).elim B (λc=>by omega),yak N k.chg.size,λj hj=>⟨(k.chg.cell N B).trans (h3 j hj).1,(k.chg.cell N B).trans (h3 j hj).2⟩⟩⟩
theorem LcR.keep{M W F u}(h:LcR M W a n u)(k:Kept 0 0 W F):LcR M F a n u:=h.mv (Mv.of k)
def VlO(W:World)(P:Nat)(M:Nat->Prop)(r:Rs Nat)(e:Ending)(W':World):Prop:=
 match r with
 |.error (c,p)=>e=.returned (.int .i64 (-1))/\Bad W P M c p W'
 |.ok v=>e=.returned (.int .i64 (v:Int))/\Kept 0 0 W W'
theorem pE{C:Type}(p z):∀(l:List C) (k:Nat),k<l.length->p (l.getD k z)=true->(∀j,j<k->p (l.getD j z)=false)->l.find? p=some (l.getD k z)
 |x::r,0,_,h,_=>by simp_all
 |x::r,k+1,J,h,hj=>by
  have aj:=hj 0 xaa
  rw[List.find?_cons_of_neg (by grind)]
  exact pE p z r k (by grind) h (λj b=>hj (j+1) xaa)
theorem qW{C:Type}(p z):∀(l:List C),(∀j,j<l.length->p (l.getD j z)=false)->l.find? p=none
 |[],_=>rfl
 |x::r,h=>by
  have aj:=h 0 xac
  rw[List.find?_cons_of_neg (by grind)]
  exact qW p z r (λj hj=>h (j+1) (by grind))
theorem vf{M W b d}(h:BcOK M W b d):b.nm=d.nm:=by cases d<;>exact h.1
theorem oq{W}(h:WS W P I u1 u2 u3 u4 bs st){k}(J:k<bs.length)(B:(bs.getD k i2).nm=s)(N:∀j,j<k->(bs.getD j i2).nm≠s):iI st.names s=some (st.names.getD k (.val [] 0)):=
 pE (λb:Bdg=>b.nm==s) (.val [] 0) st.names k (jv h.nl J) (by rw[<-vf (h.nb k J),B];simp) (λj hj=>by rw[<-vf (h.nb j xaa)];grind)
theorem oO{W}(h:WS W P I u1 u2 u3 u4 bs st)(N:∀j,j<bs.length->(bs.getD j i2).nm≠s):iI st.names s=none:=
 qW (λb:Bdg=>b.nm==s) (.val [] 0) st.names (λj hj=>by rw[<-vf (h.nb j (jn h.nl hj))];exact yax (N j (jn h.nl hj)))
theorem xy{W}(h:WS W P I u1 u2 u3 u4 bs st)(aD:st.names.length<=5000)(af Q cL u)(bI:LcR (Mst P u1 u2 u3 u4) W af Q u)(hn:Q<=5000)(t):
  Calls prog 116 #[ge P,.slice af Q cL,iS t] W (VlO W P (Mst P u1 u2 u3 u4) (fw st u t)):=by
 obtain⟨aW,ps,br⟩:=t;have ao:V _:=gY W aW ps br;have ap:=eA 0 0 W (.cells #[eL aW,ih ps,eL br] 127);have aA:V _:=ap;have b4:V _:=h.keep ap;have cx:V _:=bI.keep ap;have aV:V _:=bI.len;have bD:bs.length<=100000:=jx h.nl
 have b2:V (fw st _ ⟨aW,_,_⟩=match AI u br with|some v=>.ok v|none=>match iI _ br with|some (.val _ v)=>.ok v|_=>.error (3,ps)):=rfl;generalize fw st _ _=r at b2⊢;unfold iS;simp only;clear ap h bI;go_enter func116,ntmps116;go_wp2_with fail;change Code.wp _ _ _ _ (W.alloc (.cells _ 127));generalize W.alloc _=aq at ao aA b4 cx⊢;go_loopw [7] (λG F=>∃k:Nat,k<=Q/\G=ih k/\V (Kept 0 0 aq F)/\V (∀j,j<k->(u.getD j ([],0)).1≠br)) (λG _=>Q-(intOf G).toNat)
 case atStart=>exact⟨0,yae,rfl,i3,λj hj=>by omega⟩
 case round=>
  obtain⟨k,J,rfl,aS,m⟩:=hrel;by_cases aY:k<Q
  ·obtain⟨g,an,rfl,_,az,ai⟩:=(cx.o.keep aS.o).at_ xaa;obtain⟨c1,_⟩:=ai k aY;have c2:=(ao.o.keep aS.o).c2
   have bi:V (∀F,Kept 0 0 _ F->F.cell? _=some _):=λF al=>by
    obtain⟨aI,cR,e,_,_,a0⟩:=(cx.o.keep al).at_ xaa
    cases e
    exact(a0 k aY).2
   generalize aH:(u.getD k _).1=x at c1;have bB:V _:=aH;clear aH ai;go_upto_region 4 with fail;go_quiet (fail)
   have b0:V _:=Kept.trans aS.o (eJ 0 0 _ nq);clear c1 c2 aS az;generalize wr.drewN _=cd at b0⊢;cases am:(x==br)
   ·have H:V (∀j,j<k+1->(u.getD j _).1≠br):=λj hj=>by
     by_cases c:j=k
     ·subst c;rw[bB.o];intro d;rw[d]at am;simp at am
     ·exact m.o j xaa
    go_wp2_with fail;go_roundw;exact⟨k+1,by omega,by go_num,b0,H⟩;simp[intOf];omega
   have H:V (r=.ok (u.getD k ([],0)).2):=by
    show _=_
    have ag:AI u br=some (u.getD k ([],0)).2:=by
     unfold AI;rw[pE (λb:List _×Nat=>b.1==br) _ _ k (jn aV.o aY) (by show((u.getD k ([],0)).1==br)=true;rw[bB.o];exact am) (λj hj=>yax (m.o j hj))];rfl
    rw[b2.o,ag]
   have c3:=bi.o _ b0.o;clear bi;go_wp2_with fail;go_ret;rw[H.o];exact⟨rfl,aA.o.trans b0.o⟩
  obtain rfl:k=Q:=xaa
  have f:V (AI u br=none):=by
   show _=_;unfold AI;rw[qW (λb:List _×Nat=>b.1==br) _ _ (λj hj=>yax (m.o j (by rw[aV.o]at hj;exact hj)))];rfl
  have bF:V _:=b4.o.keep aS.o;have cw:V _:=ao.o.keep aS.o;have aZ:V _:=aA.o.trans aS.o;have c2:=cw.o.c2;have c1:=cw.o.c1;have be:V _:=qR bF.o.c3 bF.o.r4 bD br;have c3:=bF.o.c3;have bo:V _:=jp bF.o.c5 bF.o.c6 bF.o.fr 3 ps (Mst P u1 u2 u3 u4) (.inl rfl);have z:V _:=lQ bF.o.r4;obtain⟨a4,cA,ax⟩:=jq bF.o.r4;clear aS m cx ao;subst ax;go_upto_region 7 with (go_at_call 103;refine yaj be.o ?_;rintro e ak ⟨i,rfl,bK,S⟩;obtain rfl:=S.symm);rcases bK with⟨aC,bO,rfl,N,ah⟩|⟨rfl,hn⟩
  ·have aN:V _:=oq bF.o bO N ah;have l:V _:=bF.o.nb _ bO;obtain⟨cc,ce,e4,_,_,_,bz⟩:=z.o xaa;cases e4;obtain⟨_,aX,bk,_,_⟩:=bz _ bO;generalize b6:bs.length=nn at*;generalize bs.getD aC _=b at aX bk l;generalize st.names.getD aC _=cr at aN l;have Z:¬((aC:Int)<0):=xaa;cases cr with
   |val aa v=>
    have w:=l.o.2.1;have cI:=l.o.2.2;rw[w]at aX;rw[cI]at bk;have H:V (r=.ok v):=by show _=_;rw[b2.o,f.o,aN.o]
    clear w cI N ah bz b6 l z;go_wp2_with fail;go_ret;rw[H.o];exact⟨rfl,aZ.o⟩
   |fn aa aF y=>
    have w:=l.o.2.1;rw[w]at aX;have H:V (r=.error (3,ps)):=by show _=_;rw[b2.o,f.o,aN.o]
    clear w N ah bz b6 l z bk;go_wp2_with (go_at_call 101;refine yaj bo.o ?_;rintro e aM ⟨rfl,ba⟩);go_ret;rw[H.o];exact⟨rfl,ba.c5,ba.c6,(Mv.of aZ.o).bad ba.chg⟩
  have H:V (r=.error (3,ps)):=by show _=_;rw[b2.o,f.o,oO bF.o hn]
  clear hn z;go_wp2_with (go_at_call 101;refine yaj bo.o ?_;rintro e aM ⟨rfl,ba⟩);go_ret;rw[H.o];exact⟨rfl,ba.c5,ba.c6,(Mv.of aZ.o).bad ba.chg⟩
