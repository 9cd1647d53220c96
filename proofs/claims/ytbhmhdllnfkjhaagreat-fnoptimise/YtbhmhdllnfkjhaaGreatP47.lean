import Derived.Test.YtbhmhdllnfkjhaaGreatP45
import Derived.Test.YtbhmhdllnfkjhaaGreatP46
namespace Go.Proofs.Z
variable{Zp:Prop}
open Tryz Go.RowKit Flt
set_option maxRecDepth 1000000
set_option maxHeartbeats 0
section
attribute[local go_sem] eG eE eD
variable{a:Option Addr}{t:List UInt8}
abbrev IV:Obj:=.cells #[.slice none 0 0,.slice none 0 0,.slice none 0 0,.slice none 0 0,.int .i64 0,.int .i64 0,.int .i64 0] 98
theorem Oq(W:World)(R)(aS:R<=W.heap.size):WS (W.alloc IV) W.heap.size R (.slice none 0 0) (.slice none 0 0) (.slice none 0 0) (.slice none 0 0) [] LSt.zero:=by
 have nn:(Value.slice none 0 0).ownBlock=none:=rfl;have aL:Apart (.slice none 0 0) (.slice none 0 0):=λk h=>by rw[nn]at h;cases h
 refine⟨by simp,λo=>?_,?_,?_,?_,?_,?_,?_,?_,yaw _ _ _ _,yaw _ _ _ _,yaw _ _ _ _,yaw _ _ _ _,⟨by rw[nn];simp,by rw[nn];simp,by rw[nn];simp,by rw[nn];simp⟩,⟨aL,aL,aL,aL,aL,aL⟩,rfl,λi hi=>by simp at hi,aS⟩
 ·simp[World.frozen?,World.alloc,-World.alloc_eq]
 all_goals (rw[yav];rfl)
def PaO(w:World)(B:Nat)(st:LSt)(e:Ending)(w':World):Prop:=
 ∃z1 z2 z3,e=.returned (.tuple #[.agg #[z1,z2,z3],.int .i64 0,.int .i64 0])/\w'.ownsRow B 3 1 z1 st.ins.length (st.ins.map (Value.int .i64))/\w'.ownsRow B 60 6 z2 st.vs.length (fK st.vs)/\w'.ownsRow B 3 1 z3 st.outs.length (st.outs.map (Value.int .i64))/\Apart z1 z2/\Apart z1 z3/\Apart z2 z3/\Gd st/\Kept 0 0 w w'
def PaZ(w:World)(B:Nat)(r:Rs LSt)(e:Ending)(w':World):Prop:=match r with
 |.error (c,p)=>PaE w c p e w'
 |.ok st=>PaO w B st e w'
structure Lp2(W0 W':World)(P B:Nat)(T:List Tok)(f:Nat)(r:Rs LSt)(F i:Nat)(st:LSt)(ss:List Sm)(bs:List Bc)(z1 z2 z3 z4:Value):Prop where
 ws:WS W' P B z1 z2 z3 z4 bs st
 mv:Mv (Mst P (.slice none 0 0) (.slice none 0 0) (.slice none 0 0) (.slice none 0 0)) W0 (Mst P z1 z2 z3 z4) W'
 pg:PGm ss (T.drop F)
 pm:oW f st ss=some r
 gd:Gd st
 nm:NmOK st
 nl:st.names.length<=F
 ns:∀j,F<=j->j<i->(T.getD j hJ).sym≠[59]
theorem yj{P b}(h:Mst P (.slice none 0 0) (.slice none 0 0) (.slice none 0 0) (.slice none 0 0) b):b=P:=by
 rcases h with c|c|c|c|c<;>grind[Value.ownBlock]
theorem r7(bl:List Tok)(F k):(bl.drop F).getD k hJ=bl.getD (F+k) hJ:=by
 simp_all
theorem bR.qby(h:Zp:=by
 have x:V _:=xz ag bn (jC t).length cr n (jC t) rfl (yao HL.o xab) (λae=>by obtain⟨g,e,_,J,_⟩:=ak ae;exact⟨g,0,e,J⟩);rw[bV.o]at x;have aq:V _:=ak;have bD:V _:=ah;clear ak aU b1 ah bV;obtain⟨bl,a6⟩:∃bl,bl=jC t:=⟨_,rfl⟩
 rw[<-a6]at HL bS bL bZ x aq⊢;clear a6;have ca:=HL.o;generalize aP:bl.length=m at aq x ca⊢;exact qfo):Zp:=h
theorem bR.qff(h:Zp:=by
 have aX:V (∀W',Kept 0 0 (w.alloc (eW none 0 0 none 0 0 none 0 0)) W'->_):=λW' ai=>CC w W' ai;have HK:V _:=bc;have bV:V _:=aK;have bS:V (∀K∈jC t,K.sym=iG->Dgs K.text):=λK B J=>NA (zV t _ K B J) (Q K B (.inl J));have bL:V _:=Q;have bZ:V _:=aL;have bU:V _:=ce;clear bc f aK Q aL ce;go_enter func35,ntmps35;go_upto_region 1 with fail;change Code.wp _ _ _ _ (w.alloc (eW none 0 0 none 0 0 none 0 0));have bH:V ((w.alloc (eW none 0 0 none 0 0 none 0 0)).heap.size=w.heap.size+1):=by show _=_;simp
 generalize w.alloc (eW none 0 0 none 0 0 none 0 0)=aO at b1 aX HK bH⊢;generalize ch:w.heap.size=aR at aX bH⊢;exact qbx):Zp:=h
theorem bR.qfp(h:Zp:=by
 have ba:V (0<m->∃g,bn=some ⟨g,0,none⟩/\aO.heap.size<=g/\TkA a7 g 0 m bl/\m<=cr):=λae=>by
  exact xjq
 clear x aF aq bD;go_wp2_with fail;go_loopw [7] (λaD W'=>∃i:Nat,i<=m/\aD=hD i/\V (Kept 0 0 a7 W')) (λaD _=>m-(intOf aD).toNat)
 case atStart=>exact⟨0,yae,rfl,(show V (Kept 0 0 a7 a7) from Kept.refl 0 0 a7)⟩
 case round=>
  obtain⟨i,hi,rfl,aw⟩:=hrel;by_cases aC:i<m
  ·obtain⟨az,bN,_,bP,_⟩:=ba.o xaa;have aH:=bP.keep aw.o;subst bN;have bd:=aH.c0 i aC;have aJ:=aH.c2 i aC;rw[Nat.zero_add]at bd aJ;have bu:V (isN (bl.getD i hJ)->_):=λh=>bL.o _ (by rw[yai,yam (hO aa.o aC)];exact List.getElem_mem _) h;generalize bl.getD i hJ=K at bd aJ bu;obtain⟨aW,X,bF⟩:=K;simp only at bd aJ bu;clear bP aH;have I:=Lib.run_convert_string_bytes (P:=prog) wr 9 22 5 ⟨bF.toArray⟩ underlying9 underlying22 underlying5;have bO:V _:=qZ wr 5 bF;have R:V _:=m8 wr 5 ⟨bF.toArray⟩;have ci:(⟨bF.toArray⟩:ByteArray).size=bF.length:=rfl;rw[ci]at I;have q:(convert 9 22 (eN bF)).run prog wr=_:=I;clear I ci;cases c1:(aW==[105,110,116])
   ·cases c2:(aW==[100,101,99])
    ·exact xgu
    have u:V (kP bF):=bu.o (.inr (eq_of_beq c2));exact xch
   have u:V (kP bF):=bu.o (.inl (eq_of_beq c1));exact xch
  obtain rfl:i=m:=xaa;have bT:V _:=bR.o.trans aw.o;go_upto_region 14 with fail;go_upto_region 15 with fail;change Code.wp _ _ _ _ (wr.alloc IV);have aS:V (aR+1<=wr.heap.size):=by show _<=_;rw[<-bH.o];exact bT.o.size
  have be:V _:=Oq wr (aR+1) aS.o;have l:=ez 0 0 wr IV
  have aZ:V (0<i->∃g,bn=some ⟨g,0,none⟩/\aR+1<=g/\g<wr.heap.size/\TkA (wr.alloc IV) g 0 i bl/\i<=cr):=λae=>by
   obtain⟨g,e,B,J,h3⟩:=ba.o ae
   exact⟨g,e,by rw[bH.o]at B;exact B,(J.keep aw.o).lt,(J.keep aw.o).keep l,h3⟩
  have bX:V _:=bT.o.trans l;clear l ba aw bT;generalize wr.alloc IV=W0 at be aZ bX⊢;generalize cw:wr.heap.size=P at be aZ aS⊢;clear cw;have bw:V (Lp2 W0 W0 P (aR+1) bl bg r 0 0 LSt.zero S [] (.slice none 0 0) (.slice none 0 0) (.slice none 0 0) (.slice none 0 0)):=⟨be.o,Mv.refl _ _,by rw[List.drop_zero];exact bZ.o,bU.o,Ku,Kv,yad,λj B J=>by omega⟩
  go_wp2_with fail;go_loopw [11,12] (λc8 aD W'=>∃F b0:Nat,F<=i/\b0<=i/\c8=hD F/\aD=hD b0/\V ((∃st S bs aN a2 bk bq,F<=b0/\Lp2 W0 W' P (aR+1) bl bg r F b0 st S bs aN a2 bk bq)\/(∃(c:Int) (p:Nat),c≠0/\r=.error (c,p)/\W'.cell? ⟨P,5,none⟩=some (hD c)/\W'.cell? ⟨P,6,none⟩=some (hD p)/\Chg (Mst P (.slice none 0 0) (.slice none 0 0) (.slice none 0 0) (.slice none 0 0)) W0 W'))) (λ_ aD _=>i-(intOf aD).toNat)
  case atStart=>exact⟨0,0,yae,yae,rfl,rfl,(show V _ from .inl ⟨_,_,_,_,_,_,_,yad,bw.o⟩)⟩
  case round=>
   obtain⟨F,b0,bp,bf,rfl,rfl,a5⟩:=hrel;clear bw bZ bU be;rcases a5.o with⟨st,S,bs,aN,a2,bk,bq,cz,L⟩|⟨c,p,ad,cf,bo,G,cd⟩
   ·have k:V _:=L;have cC:=L.ws.c5;clear L a5;by_cases aB:b0<i
    ·obtain⟨az,bN,cx,cF,b8,cB⟩:=aZ.o xaa;subst bN;have an:¬Mst P (.slice none 0 0) (.slice none 0 0) (.slice none 0 0) (.slice none 0 0) az:=λc=>by have:=yj c;omega
     have Y:V _:=b8.keepC k.o.mv.chg an;have ef:¬Mst P aN a2 bk bq az:=λc=>(k.o.mv.new az c).elim an (λc=>hM b8.lt);have cq:V _:=ef;have bd:=Y.o.c0 b0 aB;rw[Nat.zero_add]at bd;generalize ck:(bl.getD b0 hJ).sym=aW at bd;have b2:V _:=ck;clear ck b8 an ef;cases c3:(aW==[59])
     ·have b4:∀j,F<=j->j<b0+1->(bl.getD j hJ).sym≠[59]:=λj B J=>by
       by_cases e:j=b0
       ·subst e
        rw[b2.o]
        intro d
        rw[d]at c3
        simp at c3
       ·exact k.o.ns j B xaa
      have b3:V (Lp2 W0 wr P (aR+1) bl bg r F (b0+1) st S bs aN a2 bk bq):=⟨k.o.ws,k.o.mv,k.o.pg,k.o.pm,k.o.gd,k.o.nm,k.o.nl,b4⟩
      clear b4;go_wp2_with fail;go_roundw;exact⟨F,b0+1,bp,by omega,rfl,by go_num,(show V _ from .inl ⟨st,S,bs,aN,a2,bk,bq,by omega,b3.o⟩)⟩;simp[intOf];omega
     have y:=b2.o.trans (eq_of_beq c3);obtain⟨s,aY,cj,bi,b7⟩:=Ll k.o.pg (k:=b0-F) (by rw[r7,show F+(b0-F)=b0 by omega];exact y) (λj hj=>by rw[r7];exact k.o.ns (F+j) xaa xaa);have b9:=PA bi;rw[List.length_take]at b9;have cA:F<b0:=xaa;rw[List.drop_drop,show F+(b0-F+1)=b0+1 by omega]at b7;have cO:=k.o.pm;rw[cj]at cO;obtain⟨ay,bx,ar,al⟩:=Ee cO;have bz:∀K∈(bl.drop F).take (b0-F),K∈bl:=λK h=>List.mem_of_mem_drop (List.mem_of_mem_take h);have cc:TrIn wr P (aR+1) aN a2 bk bq bs st none 0 [] az (0+F*3) (b0-F) (cr-F) ((bl.drop F).take (b0-F)):=⟨k.o.ws,k.o.gd,k.o.nm,IA _ _,yae,(λb hb=>by cases hb),Y.o.in_ F b0 _ rfl xaa,cq.o,by omega,by omega,λK B J=>bS.o K (bz K B) J,λK B J=>bL.o K (bz K B) J⟩
     have O:V _:=IJ cc bi bx;rw[Nat.zero_add]at O;have HE:V _:=ar;have HO:V _:=al;have cn:V _:=Lr bx;have cb:V (∀ao,ay=.ok ao->_):=λao e=>Eh k.o.gd k.o.nm (hM k.o.nl) (Pz bi (λK B J=>bS.o K (bz K B) J)) (hQ e bx);have H:V _:=b7;clear cc bx ar al bi b7 cO bz cj b9 y;rcases ay with⟨c,p⟩|ao
     ·have bm:V _:=HE.o _ rfl;have cl:V (c≠0):=cn.o c p rfl;go_wp2_with (go_at_call 70;refine yaj O.o ?_;rintro e br ⟨rfl,bh⟩);have aI:V _:=bh;have ct:V _:=k.o.mv;clear bh O;go_wp2_with fail;go_roundw;exact⟨b0+1,b0+1,by omega,by omega,by go_num,by go_num,(show V _ from .inr ⟨c,p,cl.o,bm.o,aI.o.1,aI.o.2.1,ct.o.bad aI.o.2.2⟩)⟩;simp[intOf];omega
     have sg:=cb.o ao rfl;have am:V _:=sg;have cu:V _:=HO.o ao rfl;clear sg;go_wp2_with (go_at_call 70;refine yaj O.o ?_;rintro e br ⟨rfl,ax,aM,aQ,bY,cg,bQ,a0⟩);have b3:V (Lp2 W0 br P (aR+1) bl bg r (b0+1) (b0+1) ao aY ax aM aQ bY cg):=⟨bQ,k.o.mv.trans a0,H.o,cu.o,am.o.g,am.o.nm,hN am.o.m k.o.nl,λj B J=>by omega⟩
     clear bQ a0 O k;go_wp2_with fail;go_roundw;exact⟨b0+1,b0+1,by omega,by omega,by go_num,by go_num,(show V _ from .inl ⟨ao,aY,ax,aM,aQ,bY,cg,yad,b3.o⟩)⟩;simp[intOf];omega
    obtain rfl:b0=i:=xaa;obtain⟨bW,_⟩:=Lm k.o.pg (λj hj=>by rw[List.length_drop,aa.o]at hj;rw[r7];exact k.o.ns (F+j) xaa xaa)
    have bm:V (r=.ok st):=by
     have h:=k.o.pm;rw[bW,oW]at h;exact(hH h).symm
    have N:V _:=Chg.kept bX.o k.o.mv.chg (λb hb=>by have:=yj hb;have:=aS.o;have:=bH.o;omega);obtain⟨cy,bA,ap,fr⟩:=aX.o wr N.o;have bG:=fr 0;have f1:=fr 1;have f2:=fr 2;have a8:=k.o.ws.c0;have aV:=k.o.ws.c1;have p2:=k.o.ws.c2;have aj:∀{z:Value}{e s n:Nat}{xs:List Value},wr.ownsRow (aR+1) e s z n xs->z.ownBlock≠some aR:=λav c=>hM ((eH av c).1)
    have U:V (Kept 0 0 w (((wr.setCell ⟨aR,0,none⟩ aN).setCell ⟨aR,1,none⟩ a2).setCell ⟨aR,2,none⟩ bk)):=Ag (HK.o.trans N.o) (Nat.le_of_eq aT.o) _ _ _;have R1:V _:=eJ (u:=bk) (o:=2) (eJ (u:=a2) (o:=1) (eJ (u:=aN) (o:=0) k.o.ws.r1 (aj k.o.ws.r1)) (aj k.o.ws.r1)) (aj k.o.ws.r1);have R2:V _:=eJ (u:=bk) (o:=2) (eJ (u:=a2) (o:=1) (eJ (u:=aN) (o:=0) k.o.ws.r2 (aj k.o.ws.r2)) (aj k.o.ws.r2)) (aj k.o.ws.r2);have R3:V _:=eJ (u:=bk) (o:=2) (eJ (u:=a2) (o:=1) (eJ (u:=aN) (o:=0) k.o.ws.r3 (aj k.o.ws.r3)) (aj k.o.ws.r3)) (aj k.o.ws.r3);obtain⟨bb,aM,aQ⟩:=eZ wr aR _ _ _ cy bA ap aN a2 bk;obtain⟨bB,d1,e1⟩:=jt k.o.ws.r1;obtain⟨bE,d2,e2⟩:=jt k.o.ws.r2;obtain⟨b6,d3,af⟩:=jt k.o.ws.r3;have bM:V _:=k.o.ws.ap;have co:V _:=k.o.gd;clear fr aX aj aZ bW N k;subst e1 e2 af;go_wp2_with fail;refine yaz (v:=.tuple #[.agg #[.slice bB st.ins.length d1,.slice bE st.vs.length d2,.slice b6 st.outs.length d3],hD 0,hD 0]) (by simp[results,results35,go_sem,bb,aM,aQ]) rfl ?_;rw[bm.o,aT.o];exact⟨_,_,_,rfl,R1.o,R2.o,R3.o,bM.o.1,bM.o.2.1,bM.o.2.2.2.1,co.o,U.o⟩
   have N:V _:=Chg.kept bX.o cd (λb hb=>by have:=yj hb;have:=aS.o;have:=bH.o;omega);obtain⟨cy,bA,ap,fr⟩:=aX.o wr N.o;have bG:=fr 0;have f1:=fr 1;have f2:=fr 2;have aA:=yax ad;have T:(c !=0)=true:=by unfold bne;rw[aA];rfl
   have au:aR≠P:=λe=>hM aS.o
   have bv:(((wr.drew.setCell ⟨aR,0,none⟩ (.slice none 0 0)).setCell ⟨aR,1,none⟩ (.slice none 0 0)).setCell ⟨aR,2,none⟩ (.slice none 0 0)).cell? ⟨P,5,none⟩=some (hD c):=by
    rw[eM _ _ _ _ _ _ (.inl au),eM _ _ _ _ _ _ (.inl au),eM _ _ _ _ _ _ (.inl au)];exact bo
   have bJ:(((wr.drew.setCell ⟨aR,0,none⟩ (.slice none 0 0)).setCell ⟨aR,1,none⟩ (.slice none 0 0)).setCell ⟨aR,2,none⟩ (.slice none 0 0)).cell? ⟨P,6,none⟩=some (hD p):=by
    rw[eM _ _ _ _ _ _ (.inl au),eM _ _ _ _ _ _ (.inl au),eM _ _ _ _ _ _ (.inl au)];exact G
   obtain⟨bb,aM,aQ⟩:=eZ wr aR _ _ _ cy bA ap (.slice none 0 0) (.slice none 0 0) (.slice none 0 0);have bC:(wr.setCell ⟨aR,0,none⟩ (.slice none 0 0)).cell? ⟨aR,0,none⟩=some (.slice none 0 0):=fD _ _ _ _ _ cy;have aN:((wr.setCell ⟨aR,0,none⟩ (.slice none 0 0)).setCell ⟨aR,1,none⟩ (.slice none 0 0)).cell? ⟨aR,1,none⟩=some (.slice none 0 0):=fD _ _ _ _ _ ((eM _ _ _ _ _ _ (.inr xaa)).trans bA);have U:V (Kept 0 0 w (((wr.drew.setCell ⟨aR,0,none⟩ (.slice none 0 0)).setCell ⟨aR,1,none⟩ (.slice none 0 0)).setCell ⟨aR,2,none⟩ (.slice none 0 0))):=Ag ((HK.o.trans N.o).trans (eF wr)) (Nat.le_of_eq aT.o) _ _ _;have bm:V _:=cf;clear fr aX aZ cd cf a5 au N ad;by_cases aB:b0<i
   ·exact xep
   exact xep):Zp:=h
open bR in
theorem EW{w n cap}(f:TxA w a n t)(hn:n<=4000)(aG:n<=cap)(aK:fE n (jC t) [iI]=-1)(Q:∀K∈jC t,isN K->kP K.text){S bg r}(aL:PGm S (jC t))(ce:oW bg LSt.zero S=some r):Calls prog 35 #[.slice a n cap] w (PaZ w (w.heap.size+1) r):=by
 have bI:¬(4000:Int)<(n:Int):=xaa;exact qfe
theorem bS.qby(h:Zp:=by
 have x:V _:=xz _ _ _ cr n _ rfl (yao HL.o xab) (λae=>by obtain⟨g,e,_,J,_⟩:=ak ae;exact⟨g,0,e,J⟩);rw[bV.o]at x;have aq:V _:=ak;have bD:V _:=ah;clear ak aU b1 ah bV;obtain⟨bl,a6⟩:∃bl,bl=jC t:=⟨_,rfl⟩
 rw[<-a6]at HL cG aS y b7 l x aq⊢;have bp:V _:=a6;clear a6;have ca:=HL.o;generalize aP:bl.length=m at aq x ca cG⊢;have a2:=cG.o;exact qfo):Zp:=h
theorem bS.qff(h:Zp:=by
 have aX:V _:=λW' ai=>CC w W' ai;have HK:V _:=bc;have bV:V _:=aK;have cG:V _:=a2;have aS:V _:=au;have y:V _:=H;have b7:V _:=z
 have l:V (∀j,((jC t).getD j hJ).text.length<=4000):=λj=>by
  have B:=JA t j
  have J:=f.len
  omega
 clear bc f aK a2 au H z;go_enter func35,ntmps35;go_upto_region 1 with fail;change Code.wp _ _ _ _ (w.alloc (eW _ 0 0 _ 0 0 _ 0 0));have bH:V ((w.alloc (eW none 0 0 none 0 0 none 0 0)).heap.size=w.heap.size+1):=by show _=_;simp
 generalize w.alloc _=aO at b1 aX HK bH⊢;generalize ch:w.heap.size=aR at aX bH⊢;exact qbx):Zp:=h
theorem bS.qfp(h:Zp:=by
 have ba:V (0<m->∃g,bn=some _/\aO.heap.size<=g/\TkA _ g 0 m bl/\m<=cr):=λae=>by
  exact xjq
 clear x aF aq bD;go_wp2_with fail;go_loopw [7] (λaD W'=>∃i:Nat,i<=b3/\aD=hD i/\V (Kept 0 0 a7 W')) (λaD _=>b3-(intOf aD).toNat)
 case atStart=>exact⟨0,yae,rfl,(show V _ from hL)⟩
 case round=>
  obtain⟨i,hi,rfl,aw⟩:=hrel;have aC:i<m:=xaa;obtain⟨az,bN,cx,bP,_⟩:=ba.o xaa;have aH:=bP.keep aw.o;subst bN;have bd:=aH.c0 i aC;have aL:=aH.c1 i aC;have aJ:=aH.c2 i aC;have aZ:V _:=l.o i
  have am:V (∀W',Kept 0 0 _ W'->W'.cell? _=some _):=λW' ai=>by
   have:=(aH.keep ai).c1 i aC
   rw[Nat.zero_add]at this
   exact this
  rw[Nat.zero_add]at bd aL aJ;have cD:aR≠az:=λe=>hM bH.o
  have bu:V (isN _->(i<b3/\kP _)\/(i=b3/\Hn _ _)):=λh=>by
   rcases Nat.lt_or_ge i b3 with c|c
   ·exact .inl ⟨c,b7.o i c h⟩
   ·have e:i=b3:=xaa
    subst e
    exact .inr ⟨rfl,y.o⟩
  have aj:V (¬isN _->i<b3):=λh=>by
   rcases Nat.lt_or_ge i b3 with c|c
   ·exact c
   ·have e:i=b3:=xaa
    subst e
    exact absurd aS.o h
  have r:V (i=b3->(bl.getD _ hJ).pos=(bl.getD i _).pos):=λe=>by rw[e]
  generalize bl.getD i _=K at bd aL aJ bu aj r aZ am;obtain⟨aW,X,bF⟩:=K;simp only at bd aL aJ bu r aZ am;clear bP aH;have I:=Lib.run_convert_string_bytes wr 9 22 5 ⟨bF.toArray⟩ underlying9 underlying22 underlying5;have bO:V _:=qZ wr 5 bF;have R:V _:=m8 wr 5 ⟨bF.toArray⟩;have ci:(⟨bF.toArray⟩:ByteArray).size=bF.length:=rfl;rw[ci]at I;have q:(convert 9 _ (eN _)).run _ _=_:=I;clear I ci;cases c1:(aW==[105,110,116])
  ·cases c2:(aW==[100,101,99])
   ·have F:i<b3:=aj.o (λh=>by
     rcases h with h|h
     ·have h':aW=[105,110,116]:=h
      rw[h']at c1;simp at c1
     ·have h':aW=[100,101,99]:=h
      rw[h']at c2;simp at c2)
    exact xgu
   have u:V _:=bu.o (.inr (eq_of_beq c2));exact xam
  have u:V _:=bu.o (.inl (eq_of_beq c1));exact xam):Zp:=h
open bS in
theorem EX{w n cap}(f:TxA w a n t)(hn:n<=4000)(aG:n<=cap)(aK:fE n (jC t) [iI]=-1){b3 cb}(a2:b3<(jC t).length)(au:isN ((jC t).getD b3 hJ))(H:Hn ((jC t).getD b3 hJ).text cb)(z:∀j,j<b3->isN ((jC t).getD j hJ)->kP ((jC t).getD j hJ).text):Calls prog 35 #[.slice a n cap] w (PaE w cb ((jC t).getD b3 hJ).pos):=by
 have bI:¬4000<(n:Int):=xaa;exact qfe
end
section
theorem Ot{x}(h:¬kP x):∃c,Hn x c:=by
 by_cases g:xh (io x)
 ·refine⟨5,.inr ⟨g,?_,rfl⟩⟩;rcases Nat.lt_or_ge 15 ((io x).countP dig) with c|c
  ·exact c
  exact absurd ⟨g,c⟩ h
 exact⟨2,.inl ⟨g,rfl⟩⟩
theorem wj(bl:List Tok):∀k,k<=bl.length->(∀j,j<k->isN (bl.getD j hJ)->kP (bl.getD j hJ).text)\/∃i c,i<k/\isN (bl.getD i hJ)/\Hn (bl.getD i hJ).text c/\∀j,j<i->isN (bl.getD j hJ)->kP (bl.getD j hJ).text
 |0,_=>.inl (λj hj=>by omega)
 |k+1,N=>by
  rcases wj bl k xaa with h|⟨i,c,B,J⟩
  ·by_cases hn:isN (bl.getD k hJ)->kP (bl.getD k hJ).text
   ·grind
   ·have B:=Classical.not_imp.1 hn
    obtain⟨c,ad⟩:=Ot B.2
    grind
  grind
theorem psD(t)(a0:t.length<=4000):∃r:Rs LSt,∀{w:World}{a:Option Addr}{cap:Nat},TxA w a t.length t->t.length<=cap->Calls prog 35 #[.slice a t.length cap] w (PaZ w (w.heap.size+1) r):=by
 rcases sw t.length (jC t) [iI] with an|⟨p,an⟩
 ·rcases wj (jC t) (jC t).length yad with h|⟨i,c,B,J,h3,bz⟩
  ·have Q:∀K∈jC t,isN K->kP K.text:=λK aq hn=>by
    obtain⟨j,hj,rfl⟩:=List.getElem_of_mem aq
    have:=h j hj
    rw[yai,yam hj]at this
    exact this hn
   obtain⟨S,aL⟩:=Kf an;obtain⟨r,g,aR⟩:=zY S LSt.zero;exact⟨r,λf aG=>EW f a0 aG an Q aL (aR g yad)⟩
  exact⟨.error (c,((jC t).getD i hJ).pos),λf aG=>EX f a0 aG an B J h3 bz⟩
 exact⟨.error (2,p),λf aG=>Ah f a0 aG an⟩
theorem BB{w g t}(h:YS w (some ⟨g,0,none⟩) t.length (io t)):TxA w (some ⟨g,0,none⟩) t.length t:=
 ⟨rfl,λhn=>by
  rcases h.at_ with e|⟨aB,off,e,h3,a0⟩
  ·omega
  ·exact⟨aB,off,e,rfl,h3,λk N=>by rw[a0 k N,rC t k N]⟩⟩
