import Derived.Test.YtcjhlkdleojbjaaGreatP50
import Derived.Test.YtcjhlkdleojbjaaGreatP53
namespace Go.Proofs.Z
variable{Zp:Prop}
open Tryz Go.RowKit Flt
set_option maxRecDepth 1000000
set_option maxHeartbeats 0
section
attribute[local go_sem] eF eE eD
variable{a:Option Addr}{t:List UInt8}
abbrev JD:Obj:=.cells #[.slice none 0 0,.slice none 0 0,.slice none 0 0,.slice none 0 0,.int .i64 0,.int .i64 0,.int .i64 0] 125
theorem Pb(W:World)(J)(aT:J<=W.heap.size):WS (W.alloc JD) W.heap.size J (.slice none 0 0) (.slice none 0 0) (.slice none 0 0) (.slice none 0 0) [] LSt.zero:=by
 have nn:(Value.slice none 0 0).ownBlock=none:=rfl;have bL:Apart (.slice none 0 0) (.slice none 0 0):=λk h=>by grind
 refine⟨by simp,λo=>?_,?_,?_,?_,?_,?_,?_,?_,yaw _ _ _ _,yaw _ _ _ _,yaw _ _ _ _,yaw _ _ _ _,⟨by rw[nn];simp,by rw[nn];simp,by rw[nn];simp,by rw[nn];simp⟩,⟨bL,bL,bL,bL,bL,bL⟩,rfl,λi hi=>by simp at hi,aT⟩
 ·simp_all
 all_goals (rw[yav];rfl)
def PaO(w:World)(B:Nat)(st:LSt)(e:Ending)(w':World):Prop:=
 ∃z1 z2 z3,e=.returned (.tuple #[.agg #[z1,z2,z3],.int .i64 0,.int .i64 0])/\w'.ownsRow B 3 1 z1 st.ins.length (st.ins.map (Value.int .i64))/\w'.ownsRow B 62 6 z2 st.vs.length (fF st.vs)/\w'.ownsRow B 3 1 z3 st.outs.length (st.outs.map (Value.int .i64))/\Apart z1 z2/\Apart z1 z3/\Apart z2 z3/\Gd st/\Kept 0 0 w w'
def PaZ(w:World)(B:Nat)(r:Rs LSt)(e:Ending)(w':World):Prop:=match r with
 |.error (c,p)=>PaE w c p e w'
 |.ok st=>PaO w B st e w'
structure Lp2(W0 W':World)(P B:Nat)(T:List Tok)(f:Nat)(r:Rs LSt)(F i:Nat)(st:LSt)(ss:List Sm)(bs:List Bc)(z1 z2 z3 z4:Value):Prop where
 ws:WS W' P B z1 z2 z3 z4 bs st
 mv:Mv (Mst P (.slice none 0 0) (.slice none 0 0) (.slice none 0 0) (.slice none 0 0)) W0 (Mst P z1 z2 z3 z4) W'
 pg:PGm ss (T.drop F)
 pm:oH f st ss=some r
 gd:Gd st
 nm:NmOK st
 nl:st.names.length<=F
 ns:∀j,F<=j->j<i->(T.getD j hG).sym≠[59]
theorem yr{P b}(h:Mst P (.slice none 0 0) (.slice none 0 0) (.slice none 0 0) (.slice none 0 0) b):b=P:=by
 rcases h with c|c|c|c|c<;>grind[Value.ownBlock]
theorem rI(T:List Tok)(bg k):(T.drop bg).getD k hG=T.getD (bg+k) hG:=by
 simp_all
theorem bA.qbz(h:Zp:=by
 have J:E _:=xd ag bM (jk t).length a2 n (jk t) rfl (yao HL.o xab) (λal=>by grind);rw[bL.o]at J;have an:E _:=aB;have bB:E _:=ak;clear aB aT aV ak bL;obtain⟨T,a6⟩:∃T,T=jk t:=⟨_,rfl⟩
 rw[<-a6]at HL b1 bZ b4 J an⊢;clear a6;have cg:=HL.o;generalize aU:T.length=m at an J cg⊢;exact qfc):Zp:=h
theorem bA.qet(h:Zp:=by
 have be:E (∀I,Kept 0 0 (w.alloc (e9 none 0 0 none 0 0 none 0 0)) I->_):=λI aj=>CT w I aj;have HK:E _:=a0;have bL:E _:=aM;have b1:E (∀C∈jk t,C.sym=iK->Dgs C.text):=λC F N=>Oe (Aa t _ C F N) (Q C F (.inl N));have bZ:E _:=Q;have b4:E _:=aw;have bh:E _:=aC;clear a0 f aM Q aw aC;go_enter func41,ntmps41;go_upto_region 1 with fail;change Code.wp _ _ _ _ (w.alloc (e9 none 0 0 none 0 0 none 0 0));have bE:E ((w.alloc (e9 none 0 0 none 0 0 none 0 0)).heap.size=w.heap.size+1):=by show _=_;simp
 generalize w.alloc (e9 none 0 0 none 0 0 none 0 0)=aA at aV be HK bE⊢;generalize bq:w.heap.size=aJ at be bE⊢;exact qby):Zp:=h
theorem bA.qfd(h:Zp:=by
 have bb:E (0<m->∃g,bM=some ⟨g,0,none⟩/\aA.heap.size<=g/\TkA aF g 0 m T/\m<=a2):=λal=>by
  exact xix
 clear J aR an bB;go_wp2_with fail;go_loopw [7] (λS I=>∃i:Nat,i<=m/\S=hA i/\E (Kept 0 0 aF I)) (λS _=>m-(intOf S).toNat)
 case atStart=>grind[E,Kept.refl]
 case round=>
  obtain⟨i,hi,rfl,aI⟩:=hrel;by_cases aG:i<m
  ·obtain⟨ap,b6,_,bH,_⟩:=bb.o xaa;have av:=bH.keep aI.o;subst b6;have aY:=av.c0 i aG;have aL:=av.c2 i aG;rw[Nat.zero_add]at aY aL;have bm:E (isN (T.getD i hG)->_):=λh=>bZ.o _ (by rw[yai,yam (hL HM.o aG)];exact List.getElem_mem _) h;generalize T.getD i hG=C at aY aL bm;obtain⟨aO,ps,bv⟩:=C;simp only at aY aL bm;clear bH av;have am:=Lib.run_convert_string_bytes (P:=prog) wr 9 22 5 ⟨bv.toArray⟩ underlying9 underlying22 underlying5;have b9:E _:=qF wr 5 bv;have q:E _:=mP wr 5 ⟨bv.toArray⟩;have bX:(⟨bv.toArray⟩:ByteArray).size=bv.length:=rfl;rw[bX]at am;have o:(convert 9 22 (eN bv)).run prog wr=_:=am;clear am bX;cases c1:(aO==[105,110,116])
   ·cases c2:(aO==[100,101,99])
    ·exact xgj
    have x:E (ki bv):=bm.o (.inr (eq_of_beq c2));exact xcb
   have x:E (ki bv):=bm.o (.inl (eq_of_beq c1));exact xcb
  obtain rfl:i=m:=xaa;have b2:E _:=aK.o.trans aI.o;go_upto_region 14 with fail;go_upto_region 15 with fail;change Code.wp _ _ _ _ (wr.alloc JD);have ar:E (aJ+1<=wr.heap.size):=by show _<=_;rw[<-bE.o];exact b2.o.size
  have ab:E _:=Pb wr (aJ+1) ar.o;have bJ:=ez 0 0 wr JD
  have bj:E (0<i->∃g,bM=some ⟨g,0,none⟩/\aJ+1<=g/\g<wr.heap.size/\TkA (wr.alloc JD) g 0 i T/\i<=a2):=λal=>by
   obtain⟨g,e,F,N,h3⟩:=bb.o al
   exact⟨g,e,by rw[bE.o]at F;exact F,(N.keep aI.o).lt,(N.keep aI.o).keep bJ,h3⟩
  have b3:E _:=b2.o.trans bJ;clear bJ bb aI b2;generalize wr.alloc JD=W0 at ab bj b3⊢;generalize cz:wr.heap.size=P at ab bj ar⊢;clear cz;have bT:E (Lp2 W0 W0 P (aJ+1) T bz r 0 0 LSt.zero ss [] (.slice none 0 0) (.slice none 0 0) (.slice none 0 0) (.slice none 0 0)):=⟨ab.o,Mv.refl _ _,by rw[List.drop_zero];exact b4.o,bh.o,K1,K2,yad,λj F N=>by omega⟩
  go_wp2_with fail;go_loopw [11,12] (λcW S I=>∃bg bO:Nat,bg<=i/\bO<=i/\cW=hA bg/\S=hA bO/\E ((∃st ss bs aQ a8 bi bk,bg<=bO/\Lp2 W0 I P (aJ+1) T bz r bg bO st ss bs aQ a8 bi bk)\/(∃(c:Int) (p:Nat),c≠0/\r=.error (c,p)/\I.cell? ⟨P,5,none⟩=some (hA c)/\I.cell? ⟨P,6,none⟩=some (hA p)/\Chg (Mst P (.slice none 0 0) (.slice none 0 0) (.slice none 0 0) (.slice none 0 0)) W0 I))) (λ_ S _=>i-(intOf S).toNat)
  case atStart=>exact⟨0,0,yae,yae,rfl,rfl,(show E _ from .inl ⟨_,_,_,_,_,_,_,yad,bT.o⟩)⟩
  case round=>
   obtain⟨bg,bO,aX,ce,rfl,rfl,bl⟩:=hrel;clear bT b4 bh ab;rcases bl.o with⟨st,ss,bs,aQ,a8,bi,bk,cA,L⟩|⟨c,p,ah,co,b7,aS,ck⟩
   ·have l:E _:=L;have cF:=L.ws.c5;clear L bl;by_cases cc:bO<i
    ·obtain⟨ap,b6,bQ,cD,cf,cC⟩:=bj.o xaa;subst b6;have bC:¬Mst P (.slice none 0 0) (.slice none 0 0) (.slice none 0 0) (.slice none 0 0) ap:=λc=>by have:=yr c;omega
     have R:E _:=cf.keepC l.o.mv.chg bC;have cn:¬Mst P aQ a8 bi bk ap:=λc=>(l.o.mv.new ap c).elim bC (λc=>hJ cf.lt);have cw:E _:=cn;have aY:=R.o.c0 bO cc;rw[Nat.zero_add]at aY;generalize cr:(T.getD bO hG).sym=aO at aY;have bU:E _:=cr;clear cr cf bC cn;cases c3:(aO==[59])
     ·have cq:∀j,bg<=j->j<bO+1->(T.getD j hG).sym≠[59]:=λj F N=>by
       by_cases e:j=bO
       ·subst e
        rw[bU.o]
        intro d
        rw[d]at c3
        simp at c3
       ·exact l.o.ns j F xaa
      have cd:E (Lp2 W0 wr P (aJ+1) T bz r bg (bO+1) st ss bs aQ a8 bi bk):=⟨l.o.ws,l.o.mv,l.o.pg,l.o.pm,l.o.gd,l.o.nm,l.o.nl,cq⟩
      clear cq;go_wp2_with fail;go_roundw;exact⟨bg,bO+1,aX,by omega,rfl,by go_num,(show E _ from .inl ⟨st,ss,bs,aQ,a8,bi,bk,by omega,cd.o⟩)⟩;simp[intOf];omega
     have bn:=bU.o.trans (eq_of_beq c3);obtain⟨s,aW,cp,bI,b8⟩:=Mp l.o.pg (k:=bO-bg) (by rw[rI,show bg+(bO-bg)=bO by omega];exact bn) (λj hj=>by rw[rI];exact l.o.ns (bg+j) xaa xaa);have ca:=Qh bI;rw[List.length_take]at ca;have cB:bg<bO:=xaa;rw[List.drop_drop,show bg+(bO-bg+1)=bO+1 by omega]at b8;have cQ:=l.o.pm;rw[cp]at cQ;obtain⟨ay,bW,au,aZ⟩:=Et cQ;have bY:∀C∈(T.drop bg).take (bO-bg),C∈T:=λC h=>List.mem_of_mem_drop (List.mem_of_mem_take h);have cj:TrIn wr P (aJ+1) aQ a8 bi bk bs st none 0 [] ap (0+bg*3) (bO-bg) (a2-bg) ((T.drop bg).take (bO-bg)):=⟨l.o.ws,l.o.gd,l.o.nm,Jc _ _,yae,(λb hb=>by cases hb),R.o.in_ bg bO _ rfl xaa,cw.o,by omega,by omega,λC F N=>b1.o C (bY C F) N,λC F N=>bZ.o C (bY C F) N⟩
     have y:E _:=Jj cj bI bW;rw[Nat.zero_add]at y;have HE:E _:=au;have HO:E _:=aZ;have cu:E _:=Mu bW;have ci:E (∀ax,ay=.ok ax->_):=λax e=>Ew l.o.gd l.o.nm (hJ l.o.nl) (Qg bI (λC F N=>b1.o C (bY C F) N)) (hM e bW);have c6:E _:=b8;clear cj bW au aZ bI b8 cQ bY cp ca bn;rcases ay with⟨c,p⟩|ax
     ·have bx:E _:=HE.o _ rfl;have ct:E (c≠0):=cu.o c p rfl;go_wp2_with (go_at_call 76;refine yaj y.o ?_;rintro e bp ⟨rfl,bd⟩);have br:E _:=bd;have cx:E _:=l.o.mv;clear bd y;go_wp2_with fail;go_roundw;exact⟨bO+1,bO+1,by omega,by omega,by go_num,by go_num,(show E _ from .inr ⟨c,p,ct.o,bx.o,br.o.1,br.o.2.1,cx.o.bad br.o.2.2⟩)⟩;simp[intOf];omega
     have sg:=ci.o ax rfl;have O:E _:=sg;have cy:E _:=HO.o ax rfl;clear sg;go_wp2_with (go_at_call 76;refine yaj y.o ?_;rintro e bp ⟨rfl,ao,aP,y2,y3,y4,bN,bF⟩);have cd:E (Lp2 W0 bp P (aJ+1) T bz r (bO+1) (bO+1) ax aW ao aP y2 y3 y4):=⟨bN,l.o.mv.trans bF,c6.o,cy.o,O.o.g,O.o.nm,hK O.o.m l.o.nl,λj F N=>by omega⟩
     clear bN bF y l;go_wp2_with fail;go_roundw;exact⟨bO+1,bO+1,by omega,by omega,by go_num,by go_num,(show E _ from .inl ⟨ax,aW,ao,aP,y2,y3,y4,yad,cd.o⟩)⟩;simp[intOf];omega
    obtain rfl:bO=i:=xaa;obtain⟨bA,_⟩:=Mq l.o.pg (λj hj=>by rw[List.length_drop,HM.o]at hj;rw[rI];exact l.o.ns (bg+j) xaa xaa)
    have bx:E (r=.ok st):=by
     have h:=l.o.pm;rw[bA,oH]at h;exact(hE h).symm
    have K:E _:=Chg.kept b3.o l.o.mv.chg (λb hb=>by have:=yr hb;have:=ar.o;have:=bE.o;omega);obtain⟨bP,aq,aN,fr⟩:=be.o wr K.o;have bG:=fr 0;have f1:=fr 1;have f2:=fr 2;have bK:=l.o.ws.c0;have bu:=l.o.ws.c1;have p2:=l.o.ws.c2;have G:∀{z:Value}{e s n:Nat}{xs:List Value},wr.ownsRow (aJ+1) e s z n xs->z.ownBlock≠some aJ:=λaD c=>hJ ((eH aD c).1)
    have H:E (Kept 0 0 w (((wr.setCell ⟨aJ,0,none⟩ aQ).setCell ⟨aJ,1,none⟩ a8).setCell ⟨aJ,2,none⟩ bi)):=Ax (HK.o.trans K.o) (Nat.le_of_eq az.o) _ _ _;have R1:E _:=eI (u:=bi) (o:=2) (eI (u:=a8) (o:=1) (eI (u:=aQ) (o:=0) l.o.ws.r1 (G l.o.ws.r1)) (G l.o.ws.r1)) (G l.o.ws.r1);have R2:E _:=eI (u:=bi) (o:=2) (eI (u:=a8) (o:=1) (eI (u:=aQ) (o:=0) l.o.ws.r2 (G l.o.ws.r2)) (G l.o.ws.r2)) (G l.o.ws.r2);have R3:E _:=eI (u:=bi) (o:=2) (eI (u:=a8) (o:=1) (eI (u:=aQ) (o:=0) l.o.ws.r3 (G l.o.ws.r3)) (G l.o.ws.r3)) (G l.o.ws.r3);obtain⟨ba,aP,y2⟩:=fp wr aJ _ _ _ bP aq aN aQ a8 bi;obtain⟨bo,aH,ae⟩:=ja l.o.ws.r1;obtain⟨bw,bf,a9⟩:=ja l.o.ws.r2;obtain⟨bR,Y,ai⟩:=ja l.o.ws.r3;have b0:E _:=l.o.ws.ap;have ch:E _:=l.o.gd;clear fr be G bj bA K l;subst ae a9 ai;go_wp2_with fail;refine yaz (v:=.tuple #[.agg #[.slice bo st.ins.length aH,.slice bw st.vs.length bf,.slice bR st.outs.length Y],hA 0,hA 0]) (by simp[results,results41,go_sem,ba,aP,y2]) rfl ?_;rw[bx.o,az.o];exact⟨_,_,_,rfl,R1.o,R2.o,R3.o,b0.o.1,b0.o.2.1,b0.o.2.2.2.1,ch.o,H.o⟩
   have K:E _:=Chg.kept b3.o ck (λb hb=>by have:=yr hb;have:=ar.o;have:=bE.o;omega);obtain⟨bP,aq,aN,fr⟩:=be.o wr K.o;have bG:=fr 0;have f1:=fr 1;have f2:=fr 2;have X:=yax ah;have Z:(c !=0)=true:=by unfold bne;rw[X];rfl
   have U:aJ≠P:=λe=>hJ ar.o
   have cJ:(((wr.drew.setCell ⟨aJ,0,none⟩ (.slice none 0 0)).setCell ⟨aJ,1,none⟩ (.slice none 0 0)).setCell ⟨aJ,2,none⟩ (.slice none 0 0)).cell? ⟨P,5,none⟩=some (hA c):=by
    rw[eQ _ _ _ _ _ _ (.inl U),eQ _ _ _ _ _ _ (.inl U),eQ _ _ _ _ _ _ (.inl U)];exact b7
   have cl:(((wr.drew.setCell ⟨aJ,0,none⟩ (.slice none 0 0)).setCell ⟨aJ,1,none⟩ (.slice none 0 0)).setCell ⟨aJ,2,none⟩ (.slice none 0 0)).cell? ⟨P,6,none⟩=some (hA p):=by
    rw[eQ _ _ _ _ _ _ (.inl U),eQ _ _ _ _ _ _ (.inl U),eQ _ _ _ _ _ _ (.inl U)];exact aS
   obtain⟨ba,aP,y2⟩:=fp wr aJ _ _ _ bP aq aN (.slice none 0 0) (.slice none 0 0) (.slice none 0 0);have bD:(wr.setCell ⟨aJ,0,none⟩ (.slice none 0 0)).cell? ⟨aJ,0,none⟩=some (.slice none 0 0):=fy _ _ _ _ _ bP;have aQ:((wr.setCell ⟨aJ,0,none⟩ (.slice none 0 0)).setCell ⟨aJ,1,none⟩ (.slice none 0 0)).cell? ⟨aJ,1,none⟩=some (.slice none 0 0):=fy _ _ _ _ _ ((eQ _ _ _ _ _ _ (.inr xaa)).trans aq);have H:E (Kept 0 0 w (((wr.drew.setCell ⟨aJ,0,none⟩ (.slice none 0 0)).setCell ⟨aJ,1,none⟩ (.slice none 0 0)).setCell ⟨aJ,2,none⟩ (.slice none 0 0))):=Ax ((HK.o.trans K.o).trans (eG wr)) (Nat.le_of_eq az.o) _ _ _;have bx:E _:=co;clear fr be bj ck co bl U K ah;by_cases cc:bO<i
   ·exact xeg
   exact xeg):Zp:=h
open bA in
theorem Fu{w n cap}(f:TxA w a n t)(ad:n<=4000)(u:n<=cap)(aM:fA n (jk t) [iq]=-1)(Q:∀C∈jk t,isN C->ki C.text){ss bz r}(aw:PGm ss (jk t))(aC:oH bz LSt.zero ss=some r):Calls prog 41 #[.slice a n cap] w (PaZ w (w.heap.size+1) r):=by
 have a7:¬(4000:Int)<(n:Int):=xaa;exact qes
theorem bB.qbz(h:Zp:=by
 have J:E _:=xd _ _ _ a2 n _ rfl (yao HL.o xab) (λal=>by obtain⟨g,e,_,N,_⟩:=aB al;exact⟨g,0,e,N⟩);rw[bL.o]at J;have an:E _:=aB;have bB:E _:=ak;clear aB aT aV ak bL;obtain⟨T,a6⟩:∃T,T=jk t:=⟨_,rfl⟩
 rw[<-a6]at HL aZ ar y cj l J an⊢;have bk:E _:=a6;clear a6;have cg:=HL.o;generalize aU:T.length=m at an J cg aZ⊢;have a8:=aZ.o;exact qfc):Zp:=h
theorem bB.qet(h:Zp:=by
 have be:E _:=λI aj=>CT w I aj;have HK:E _:=a0;have bL:E _:=aM;have aZ:E _:=a8;have ar:E _:=ao;have y:E _:=Y;have cj:E _:=aw
 have l:E (∀j,((jk t).getD j hG).text.length<=4000):=λj=>by
  have F:=J1 t j
  have N:=f.len
  omega
 clear a0 f aM a8 ao Y aw;go_enter func41,ntmps41;go_upto_region 1 with fail;change Code.wp _ _ _ _ (w.alloc (e9 _ 0 0 _ 0 0 _ 0 0));have bE:E ((w.alloc (e9 none 0 0 none 0 0 none 0 0)).heap.size=w.heap.size+1):=by show _=_;simp
 generalize w.alloc _=aA at aV be HK bE⊢;generalize bq:w.heap.size=aJ at be bE⊢;exact qby):Zp:=h
theorem bB.qfd(h:Zp:=by
 have bb:E (0<m->∃g,bM=some _/\aA.heap.size<=g/\TkA _ g 0 m T/\m<=a2):=λal=>by
  exact xix
 clear J aR an bB;go_wp2_with fail;go_loopw [7] (λS I=>∃i:Nat,i<=bW/\S=hA i/\E (Kept 0 0 aF I)) (λS _=>bW-(intOf S).toNat)
 case atStart=>exact⟨0,yae,rfl,(show E _ from hI)⟩
 case round=>
  obtain⟨i,hi,rfl,aI⟩:=hrel;have aG:i<m:=xaa;obtain⟨ap,b6,bQ,bH,_⟩:=bb.o xaa;have av:=bH.keep aI.o;subst b6;have aY:=av.c0 i aG;have aC:=av.c1 i aG;have aL:=av.c2 i aG;have z:E _:=l.o i
  have ab:E (∀I,Kept 0 0 _ I->I.cell? _=some _):=λI aj=>by
   have:=(av.keep aj).c1 i aG
   rw[Nat.zero_add]at this
   exact this
  rw[Nat.zero_add]at aY aC aL;have ci:aJ≠ap:=λe=>hJ bE.o
  have bm:E (isN _->(i<bW/\ki _)\/(i=bW/\H7 _ _)):=λh=>by
   rcases Nat.lt_or_ge i bW with c|c
   ·exact .inl ⟨c,cj.o i c h⟩
   ·have e:i=bW:=xaa
    subst e
    exact .inr ⟨rfl,y.o⟩
  have bu:E (¬isN _->i<bW):=λh=>by
   rcases Nat.lt_or_ge i bW with c|c
   ·exact c
   ·have e:i=bW:=xaa
    subst e
    exact absurd ar.o h
  have s:E (i=bW->(T.getD _ hG).pos=(T.getD i _).pos):=λe=>by rw[e]
  generalize T.getD i _=C at aY aC aL bm bu s z ab;obtain⟨aO,ps,bv⟩:=C;simp only at aY aC aL bm s z ab;clear bH av;have am:=Lib.run_convert_string_bytes wr 9 22 5 ⟨bv.toArray⟩ underlying9 underlying22 underlying5;have b9:E _:=qF wr 5 bv;have q:E _:=mP wr 5 ⟨bv.toArray⟩;have bX:(⟨bv.toArray⟩:ByteArray).size=bv.length:=rfl;rw[bX]at am;have o:(convert 9 _ (eN _)).run _ _=_:=am;clear am bX;cases c1:(aO==[105,110,116])
  ·cases c2:(aO==[100,101,99])
   ·have P:i<bW:=bu.o (λh=>by
     rcases h with h|h
     ·have h':aO=[105,110,116]:=h
      rw[h']at c1;simp at c1
     ·have h':aO=[100,101,99]:=h
      rw[h']at c2;simp at c2)
    exact xgj
   have x:E _:=bm.o (.inr (eq_of_beq c2));exact xak
  have x:E _:=bm.o (.inl (eq_of_beq c1));exact xak):Zp:=h
open bB in
theorem Fv{w n cap}(f:TxA w a n t)(ad:n<=4000)(u:n<=cap)(aM:fA n (jk t) [iq]=-1){bW cb}(a8:bW<(jk t).length)(ao:isN ((jk t).getD bW hG))(Y:H7 ((jk t).getD bW hG).text cb)(aw:∀j,j<bW->isN ((jk t).getD j hG)->ki ((jk t).getD j hG).text):Calls prog 41 #[.slice a n cap] w (PaE w cb ((jk t).getD bW hG).pos):=by
 have a7:¬4000<(n:Int):=xaa;exact qes
end
section
theorem Pc{x}(h:¬ki x):∃c,H7 x c:=by
 by_cases g:wQ (gV x)
 ·refine⟨5,.inr ⟨g,?_,rfl⟩⟩;rcases Nat.lt_or_ge 15 ((gV x).countP dig) with c|c
  ·exact c
  exact absurd ⟨g,c⟩ h
 exact⟨2,.inl ⟨g,rfl⟩⟩
theorem v9(T:List Tok):∀k,k<=T.length->(∀j,j<k->isN (T.getD j hG)->ki (T.getD j hG).text)\/∃i c,i<k/\isN (T.getD i hG)/\H7 (T.getD i hG).text c/\∀j,j<i->isN (T.getD j hG)->ki (T.getD j hG).text
 |0,_=>.inl (λj hj=>by omega)
 |k+1,O=>by
  rcases v9 T k xaa with h|⟨i,c,F,N⟩
  ·by_cases ad:isN (T.getD k hG)->ki (T.getD k hG).text
   ·grind
   ·have F:=Classical.not_imp.1 ad
    obtain⟨c,ah⟩:=Pc F.2
    grind
  grind
theorem psD(t)(a6:t.length<=4000):∃r:Rs LSt,∀{w:World}{a:Option Addr}{cap:Nat},TxA w a t.length t->t.length<=cap->Calls prog 41 #[.slice a t.length cap] w (PaZ w (w.heap.size+1) r):=by
 rcases rT t.length (jk t) [iq] with X|⟨p,X⟩
 ·rcases v9 (jk t) (jk t).length yad with h|⟨i,c,F,N,h3,bF⟩
  ·have Q:∀C∈jk t,isN C->ki C.text:=λC am ad=>by
    obtain⟨j,hj,rfl⟩:=List.getElem_of_mem am
    simp_all
   obtain⟨ss,aw⟩:=KH X;obtain⟨r,g,aJ⟩:=Ad ss LSt.zero;exact⟨r,λf u=>Fu f a6 u X Q aw (aJ g yad)⟩
  exact⟨.error (c,((jk t).getD i hG).pos),λf u=>Fv f a6 u X F N h3 bF⟩
 exact⟨.error (2,p),λf u=>Ay f a6 u X⟩
theorem B0{w g t}(h:YS w (some ⟨g,0,none⟩) t.length (gV t)):TxA w (some ⟨g,0,none⟩) t.length t:=
 ⟨rfl,λad=>by
  rcases h.at_ with e|⟨aq,off,e,h3,a6⟩
  ·omega
  ·exact⟨aq,off,e,rfl,h3,λk O=>by rw[a6 k O,qV t k O]⟩⟩
