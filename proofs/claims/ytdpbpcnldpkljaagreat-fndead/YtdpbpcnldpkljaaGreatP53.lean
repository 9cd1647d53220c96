import Derived.Test.YtdpbpcnldpkljaaGreatP52
namespace Go.Proofs.Z
open Tryz
set_option maxRecDepth 1000000
set_option maxHeartbeats 0
open Go.RowKit Flt
attribute [local go_sem] eD eB eA
abbrev BT:Obj:=.cells #[.slice none 0 0,.slice none 0 0,.slice none 0 0,.slice none 0 0,.int .i64 0,.int .i64 0,.int .i64 0] 80
theorem Hg (W:World)(B:Nat)(hB:B<=W.heap.size):WS (W.alloc BT) W.heap.size B (.slice none 0 0) (.slice none 0 0) (.slice none 0 0) (.slice none 0 0) [] LSt.zero:=by
 have nn:(Value.slice none 0 0).ownBlock=none:=rfl
 have an:Apart (.slice none 0 0) (.slice none 0 0):=λk h=>by rw[nn] at h;cases h
 refine⟨by simp,λo=>?_,?_,?_,?_,?_,?_,?_,?_,yav _ _ _ _,yav _ _ _ _,yav _ _ _ _,yav _ _ _ _,⟨by rw[nn];simp,by rw[nn];simp,by rw[nn];simp,by rw[nn];simp⟩,⟨an,an,an,an,an,an⟩,rfl,λi hi=>by simp at hi,hB⟩
 ·simp[World.frozen?,World.alloc,-World.alloc_eq]
 all_goals (rw[yau];rfl)
def PaO (w:World)(B:Nat)(st:LSt)(e:Ending)(w':World):Prop:=
 ∃z1 z2 z3,e=.returned (.tuple #[.agg #[z1,z2,z3],.int .i64 0,.int .i64 0])/\w'.ownsRow B 3 1 z1 st.ins.length (st.ins.map (Value.int .i64))/\w'.ownsRow B 35 6 z2 st.vs.length (fp st.vs)/\w'.ownsRow B 3 1 z3 st.outs.length (st.outs.map (Value.int .i64))/\Apart z1 z2/\Apart z1 z3/\Apart z2 z3/\Gd st/\Kept 0 0 w w'
def PaZ (w:World)(B:Nat)(r:Rs LSt)(e:Ending)(w':World):Prop:=match r with
 |.error (c,p)=>PaE w c p e w'
 |.ok st=>PaO w B st e w'
structure Lp2 (W0 W':World)(P B:Nat)(T:List Tok)(f:Nat)(r:Rs LSt)(F i:Nat)(st:LSt)(ss:List Sm)(bs:List Bc)(z1 z2 z3 z4:Value):Prop where
 ws:WS W' P B z1 z2 z3 z4 bs st
 mv:Mv (Mst P (.slice none 0 0) (.slice none 0 0) (.slice none 0 0) (.slice none 0 0)) W0 (Mst P z1 z2 z3 z4) W'
 pg:PGm ss (T.drop F)
 pm:lP f st ss=some r
 gd:Gd st
 nm:NmOK st
 nl:st.names.length<=F
 ns:∀j,F<=j->j<i->(T.getD j Tok.zero).sym≠[59]
theorem sR {P b:Nat}(h:Mst P (.slice none 0 0) (.slice none 0 0) (.slice none 0 0) (.slice none 0 0) b):b=P:=by
 rcases h with c|c|c|c|c
 ·exact c
 all_goals (simp[Value.ownBlock] at c)
theorem og (T:List Tok)(F k:Nat):(T.drop F).getD k Tok.zero=T.getD (F+k) Tok.zero:=by
 rw[yah,List.getElem?_drop,<-yah]
theorem yI {w:World}{a:Option Addr}{n cap:Nat}{t:List UInt8}(f:TxA w a n t)(hn:n<=4000)(hcp:n<=cap)(hp:ft n (iz t) [gl]=-1)(hall:∀tk∈iz t,isN tk->i9 tk.text){ss:List Sm}{fu:Nat}{r:Rs LSt}(hss:PGm ss (iz t))(hpr:lP fu LSt.zero ss=some r):Calls prog 21 #[.slice a n cap] w (PaZ w (w.heap.size+1) r):=by
 have hn':¬(4000:Int)<(n:Int):=xaa
 have kA:=ez 0 0 w (eP none 0 0 none 0 0 none 0 0)
 have HT:Hid _:=mL (f.keep kA) xaa hcp
 have HL:Hid ((iz t).length<=4000):=by show _<=_;have:=mV t;have:=f.len;omega
 have HG:Hid (∀W',Kept 0 0 (w.alloc (eP none 0 0 none 0 0 none 0 0)) W'->_):=λW' kk=>wV w W' kk
 have HK:Hid _:=kA
 have HP:Hid _:=hp
 have HIn:Hid (∀tk∈iz t,tk.sym=gm->Dgs tk.text):=λtk h1 h2=>GQ (ur t _ tk h1 h2) (hall tk h1 (.inl h2))
 have HAl:Hid _:=hall
 have HSs:Hid _:=hss
 have HPr:Hid _:=hpr
 clear kA f hp hall hss hpr
 go_enter func21,ntmps21
 go_upto_region 1 with fail
 change Code.wp _ _ _ _ (w.alloc (eP none 0 0 none 0 0 none 0 0))
 have HW1:Hid ((w.alloc (eP none 0 0 none 0 0 none 0 0)).heap.size=w.heap.size+1):=by show _=_;simp
 generalize w.alloc (eP none 0 0 none 0 0 none 0 0)=w1 at HT HG HK HW1 ⊢
 generalize hbx:w.heap.size=bx at HG HW1 ⊢
 have HBx:Hid _:=hbx
 clear hbx
 go_upto_region 4 with (go_at_call 43;refine yai HT.out ?_;rintro e w2 ⟨v,rfl,hTR,k2⟩)
 obtain⟨aT,cT,rfl,hTA⟩:=TR.slice hTR
 have HWr:Hid _:=sc w2 aT (iz t).length cT n (iz t) rfl (yan HL.out xab) (λh0=>by obtain⟨g,e,_,h2,_⟩:=hTA h0;exact⟨g,0,e,h2⟩)
 rw[HP.out] at HWr
 have HTA:Hid _:=hTA
 have HK2:Hid _:=k2
 clear hTA hTR HT k2 HP
 obtain⟨T,hTe⟩:∃T,T=iz t:=⟨_,rfl⟩
 rw[<-hTe] at HL HIn HAl HSs HWr HTA ⊢
 clear hTe
 have hmL:=HL.out
 generalize hmm:T.length=m at HTA HWr hmL ⊢
 have HM:Hid _:=hmm
 clear hmm HL
 go_upto_region 7 with (go_at_call 44;refine yai HWr.out ?_;rintro e w3 ⟨rfl,k3⟩)
 have HK3:Hid _:=HK2.out.trans k3
 have HTk3:Hid (0<m->∃g,aT=some ⟨g,0,none⟩/\w1.heap.size<=g/\TkA w3 g 0 m T/\m<=cT):=λh0=>by
  exact xjn
 clear HWr k3 HTA HK2
 go_wp2_with fail
 go_loopw [7] (λiv W'=>∃i:Nat,i<=m/\iv=.int .i64 (i:Int)/\Hid (Kept 0 0 w3 W')) (λiv _=>m-(intOf iv).toNat)
 case atStart=>exact⟨0,Nat.zero_le _,rfl,(show Hid (Kept 0 0 w3 w3) from Kept.refl 0 0 w3)⟩
 case round=>
  obtain⟨i,hi,rfl,hK⟩:=hrel
  by_cases hlt:i<m
  ·obtain⟨gT,eT,_,hTk,_⟩:=HTk3.out xaa
   have hTk':=hTk.keep hK.out
   subst eT
   have q0:=hTk'.c0 i hlt
   have q2:=hTk'.c2 i hlt
   rw[Nat.zero_add] at q0 q2
   have HN:Hid (isN (T.getD i Tok.zero)->i9 (T.getD i Tok.zero).text):=λh=>HAl.out _ (by rw[yah,yal (by rw[HM.out];exact hlt)];exact List.getElem_mem _) h
   generalize T.getD i Tok.zero=tk at q0 q2 HN
   obtain⟨sy,ps,tx⟩:=tk
   simp only at q0 q2 HN
   clear hTk hTk'
   have hcv:=Lib.run_convert_string_bytes (P:=prog) wr 9 22 5 ⟨tx.toArray⟩ underlying9 underlying22 underlying5
   have HY:Hid (YS (Lib.bytesWorld wr 5 ⟨tx.toArray⟩) (some ⟨wr.heap.size,0,none⟩) tx.length (gc tx)):=nd wr 5 tx
   have HKc:Hid (Kept 0 0 wr (Lib.bytesWorld wr 5 ⟨tx.toArray⟩)):=kK wr 5 ⟨tx.toArray⟩
   have hsz:(⟨tx.toArray⟩:ByteArray).size=tx.length:=rfl
   rw[hsz] at hcv
   have hcv':(convert 9 22 (eE tx)).run prog wr=_:=hcv
   clear hcv hsz
   cases c1:(sy==[105,110,116])
   ·cases c2:(sy==[100,101,99])
    ·exact xhe
    ·have HNo:Hid (i9 tx):=HN.out (.inr (eq_of_beq c2))
     exact xcu
   ·have HNo:Hid (i9 tx):=HN.out (.inl (eq_of_beq c1))
    exact xcu
  ·obtain rfl:i=m:=xaa
   have HKr:Hid _:=HK3.out.trans hK.out
   go_upto_region 14 with fail
   go_upto_region 15 with fail
   change Code.wp _ _ _ _ (wr.alloc BT)
   have HB1:Hid (bx+1<=wr.heap.size):=by show _<=_;rw[<-HW1.out];exact HKr.out.size
   have HWS:Hid _:=Hg wr (bx+1) HB1.out
   have kW:=ez 0 0 wr BT
   have HTw:Hid (0<i->∃g,aT=some ⟨g,0,none⟩/\bx+1<=g/\g<wr.heap.size/\TkA (wr.alloc BT) g 0 i T/\i<=cT):=λh0=>by
    obtain⟨g,e,h1,h2,h3⟩:=HTk3.out h0
    exact⟨g,e,by rw[HW1.out] at h1;exact h1,(h2.keep hK.out).lt,(h2.keep hK.out).keep kW,h3⟩
   have HKw:Hid _:=HKr.out.trans kW
   clear kW HTk3 hK HKr
   generalize wr.alloc BT=W0 at HWS HTw HKw ⊢
   generalize hPe:wr.heap.size=P at HWS HTw HB1 ⊢
   clear hPe
   have HL0:Hid (Lp2 W0 W0 P (bx+1) T fu r 0 0 LSt.zero ss [] (.slice none 0 0) (.slice none 0 0) (.slice none 0 0) (.slice none 0 0)):=⟨HWS.out,Mv.refl _ _,by rw[List.drop_zero];exact HSs.out,HPr.out,DV,DW,yad,λj h1 h2=>by omega⟩
   go_wp2_with fail
   go_loopw [11,12] (λfv iv W'=>∃F i2:Nat,F<=i/\i2<=i/\fv=.int .i64 (F:Int)/\iv=.int .i64 (i2:Int)/\Hid ((∃st ss bs z1 z2 z3 z4,F<=i2/\Lp2 W0 W' P (bx+1) T fu r F i2 st ss bs z1 z2 z3 z4)\/(∃(c:Int) (p:Nat),c≠0/\r=.error (c,p)/\W'.cell? ⟨P,5,none⟩=some (.int .i64 c)/\W'.cell? ⟨P,6,none⟩=some (.int .i64 (p:Int))/\Chg (Mst P (.slice none 0 0) (.slice none 0 0) (.slice none 0 0) (.slice none 0 0)) W0 W'))) (λ_ iv _=>i-(intOf iv).toNat)
   case atStart=>exact⟨0,0,Nat.zero_le _,Nat.zero_le _,rfl,rfl,(show Hid _ from .inl ⟨_,_,_,_,_,_,_,yad,HL0.out⟩)⟩
   case round=>
    obtain⟨F,i2,hF,hi2,rfl,rfl,hD⟩:=hrel
    clear HL0 HSs HPr HWS
    rcases hD.out with⟨st,ss,bs,z1,z2,z3,z4,hFi,L⟩|⟨c,p,hc,hre,e5,e6,hch⟩
    ·have HLp:Hid _:=L
     have p5:=L.ws.c5
     clear L hD
     by_cases hlt2:i2<i
     ·obtain⟨gT,eT,hgB,hgP,hTk0,hcT⟩:=HTw.out xaa
      subst eT
      have hgn:¬Mst P (.slice none 0 0) (.slice none 0 0) (.slice none 0 0) (.slice none 0 0) gT:=λc=>by have:=sR c;omega
      have HTk:Hid _:=hTk0.keepC HLp.out.mv.chg hgn
      have hgz:¬Mst P z1 z2 z3 z4 gT:=λc=>(HLp.out.mv.new gT c).elim hgn (λc=>by have:=hTk0.lt;omega)
      have HGz:Hid _:=hgz
      have q0:=HTk.out.c0 i2 hlt2
      rw[Nat.zero_add] at q0
      generalize hsy:(T.getD i2 Tok.zero).sym=sy at q0
      have HSy:Hid _:=hsy
      clear hsy hTk0 hgn hgz
      cases c3:(sy==[59])
      ·have hns:∀j,F<=j->j<i2+1->(T.getD j Tok.zero).sym≠[59]:=λj h1 h2=>by
        by_cases e:j=i2
        ·subst e
         rw[HSy.out]
         intro d
         rw[d] at c3
         simp at c3
        ·exact HLp.out.ns j h1 xaa
       have HLn:Hid (Lp2 W0 wr P (bx+1) T fu r F (i2+1) st ss bs z1 z2 z3 z4):=⟨HLp.out.ws,HLp.out.mv,HLp.out.pg,HLp.out.pm,HLp.out.gd,HLp.out.nm,HLp.out.nl,hns⟩
       clear hns
       go_wp2_with fail
       go_roundw
       case rel=>exact⟨F,i2+1,hF,by omega,rfl,by go_num,(show Hid _ from .inl ⟨st,ss,bs,z1,z2,z3,z4,by omega,HLn.out⟩)⟩
       case measure=>simp[intOf];omega
      ·have hsm:(T.getD i2 Tok.zero).sym=[59]:=HSy.out.trans (eq_of_beq c3)
       obtain⟨s,ss',hsse,hPS,hPG⟩:=Eu HLp.out.pg (k:=i2-F) (by rw[og,show F+(i2-F)=i2 by omega];exact hsm) (λj hj=>by rw[og];exact HLp.out.ns (F+j) xaa xaa)
       have hlen:=IP hPS
       rw[List.length_take] at hlen
       have hFi2:F<i2:=xaa
       rw[List.drop_drop,show F+(i2-F+1)=i2+1 by omega] at hPG
       have hpm:=HLp.out.pm
       rw[hsse] at hpm
       obtain⟨r1,hr1,hE,hO⟩:=x8 hpm
       have hsub:∀tk∈(T.drop F).take (i2-F),tk∈T:=λtk h=>List.mem_of_mem_drop (List.mem_of_mem_take h)
       have hIn2:TrIn wr P (bx+1) z1 z2 z3 z4 bs st none 0 [] gT (0+F*3) (i2-F) (cT-F) ((T.drop F).take (i2-F)):=⟨HLp.out.ws,HLp.out.gd,HLp.out.nm,BJ _ _,Nat.zero_le _,(λb hb=>by cases hb),HTk.out.in_ F i2 _ rfl xaa,HGz.out,by omega,by omega,λtk h1 h2=>HIn.out tk (hsub tk h1) h2,λtk h1 h2=>HAl.out tk (hsub tk h1) h2⟩
       have HCs:Hid _:=BP hIn2 hPS hr1
       rw[Nat.zero_add] at HCs
       have HE:Hid _:=hE
       have HO:Hid _:=hO
       have HEc:Hid _:=EA hr1
       have HGo:Hid (∀s1,r1=.ok s1->Sg st s1):=λs1 e=>yb HLp.out.gd HLp.out.nm (by have:=HLp.out.nl;omega) (IN hPS (λtk h1 h2=>HIn.out tk (hsub tk h1) h2)) (by rw[<-e];exact hr1)
       have HPG:Hid _:=hPG
       clear hIn2 hr1 hE hO hPS hPG hpm hsub hsse hlen hsm
       rcases r1 with⟨c,p⟩|s1
       ·have HRe:Hid (r=.error (c,p)):=HE.out _ rfl
        have HCn:Hid (c≠0):=HEc.out c p rfl
        go_wp2_with (go_at_call 46;refine yai HCs.out ?_;rintro e w5 ⟨rfl,hT⟩)
        have HTt:Hid _:=hT
        have HMv:Hid _:=HLp.out.mv
        clear hT HCs
        go_wp2_with fail
        go_roundw
        case rel=>exact⟨i2+1,i2+1,by omega,by omega,by go_num,by go_num,(show Hid _ from .inr ⟨c,p,HCn.out,HRe.out,HTt.out.1,HTt.out.2.1,HMv.out.bad HTt.out.2.2⟩)⟩
        case measure=>simp[intOf];omega
       ·have sg:=HGo.out s1 rfl
        have HSg:Hid _:=sg
        have HPm:Hid _:=HO.out s1 rfl
        clear sg
        go_wp2_with (go_at_call 46;refine yai HCs.out ?_;rintro e w5 ⟨rfl,bs',y1,y2,y3,y4,hW5,hM5⟩)
        have HLn:Hid (Lp2 W0 w5 P (bx+1) T fu r (i2+1) (i2+1) s1 ss' bs' y1 y2 y3 y4):=⟨hW5,HLp.out.mv.trans hM5,HPG.out,HPm.out,HSg.out.g,HSg.out.nm,by have:=HSg.out.m;have:=HLp.out.nl;omega,λj h1 h2=>by omega⟩
        clear hW5 hM5 HCs HLp
        go_wp2_with fail
        go_roundw
        case rel=>exact⟨i2+1,i2+1,by omega,by omega,by go_num,by go_num,(show Hid _ from .inl ⟨s1,ss',bs',y1,y2,y3,y4,yad,HLn.out⟩)⟩
        case measure=>simp[intOf];omega
     ·obtain rfl:i2=i:=xaa
      obtain⟨hsn,_⟩:=Ev HLp.out.pg (λj hj=>by rw[List.length_drop,HM.out] at hj;rw[og];exact HLp.out.ns (F+j) xaa xaa)
      have HRe:Hid (r=.ok st):=by
       have h:=HLp.out.pm
       rw[hsn,lP] at h
       exact(Option.some.inj h).symm
      have HKz:Hid (Kept 0 0 w1 wr):=Chg.kept HKw.out HLp.out.mv.chg (λb hb=>by have:=sR hb;have:=HB1.out;have:=HW1.out;omega)
      obtain⟨g0,g1,g2,fr⟩:=HG.out wr HKz.out
      have f0:=fr 0
      have f1:=fr 1
      have f2:=fr 2
      have p0:=HLp.out.ws.c0
      have p1:=HLp.out.ws.c1
      have p2:=HLp.out.ws.c2
      have nb:∀{z:Value} {e s n:Nat} {xs:List Value},wr.ownsRow (bx+1) e s z n xs->z.ownBlock≠some bx:=λhr c=>by have:=(eG hr c).1;omega
      have R:Hid (Kept 0 0 w (((wr.setCell ⟨bx,0,none⟩ z1).setCell ⟨bx,1,none⟩ z2).setCell ⟨bx,2,none⟩ z3)):=uD (HK.out.trans HKz.out) (Nat.le_of_eq HBx.out) _ _ _
      have R1:Hid _:=eH (u:=z3) (o:=2) (eH (u:=z2) (o:=1) (eH (u:=z1) (o:=0) HLp.out.ws.r1 (nb HLp.out.ws.r1)) (nb HLp.out.ws.r1)) (nb HLp.out.ws.r1)
      have R2:Hid _:=eH (u:=z3) (o:=2) (eH (u:=z2) (o:=1) (eH (u:=z1) (o:=0) HLp.out.ws.r2 (nb HLp.out.ws.r2)) (nb HLp.out.ws.r2)) (nb HLp.out.ws.r2)
      have R3:Hid _:=eH (u:=z3) (o:=2) (eH (u:=z2) (o:=1) (eH (u:=z1) (o:=0) HLp.out.ws.r3 (nb HLp.out.ws.r3)) (nb HLp.out.ws.r3)) (nb HLp.out.ws.r3)
      obtain⟨y0,y1,y2⟩:=eY wr bx _ _ _ g0 g1 g2 z1 z2 z3
      obtain⟨x1,d1,e1⟩:=iB HLp.out.ws.r1
      obtain⟨x2,d2,e2⟩:=iB HLp.out.ws.r2
      obtain⟨x3,d3,e3⟩:=iB HLp.out.ws.r3
      have HAp:Hid _:=HLp.out.ws.ap
      have HGd:Hid _:=HLp.out.gd
      clear fr HG nb HTw hsn HKz HLp
      subst e1 e2 e3
      go_wp2_with fail
      refine yay (v:=.tuple #[.agg #[.slice x1 st.ins.length d1,.slice x2 st.vs.length d2,.slice x3 st.outs.length d3],.int .i64 0,.int .i64 0]) (by simp[results,results21,go_sem,y0,y1,y2]) rfl ?_
      rw[HRe.out,HBx.out]
      exact⟨_,_,_,rfl,R1.out,R2.out,R3.out,HAp.out.1,HAp.out.2.1,HAp.out.2.2.2.1,HGd.out,R.out⟩
    ·have HKz:Hid (Kept 0 0 w1 wr):=Chg.kept HKw.out hch (λb hb=>by have:=sR hb;have:=HB1.out;have:=HW1.out;omega)
     obtain⟨g0,g1,g2,fr⟩:=HG.out wr HKz.out
     have f0:=fr 0
     have f1:=fr 1
     have f2:=fr 2
     have hc1:(c==0)=false:=yaw hc
     have hc2:(c !=0)=true:=by unfold bne;rw[hc1];rfl
     have hPb:bx≠P:=λe=>by have:=HB1.out;omega
     have s5:(((wr.drew.setCell ⟨bx,0,none⟩ (.slice none 0 0)).setCell ⟨bx,1,none⟩ (.slice none 0 0)).setCell ⟨bx,2,none⟩ (.slice none 0 0)).cell? ⟨P,5,none⟩=some (.int .i64 c):=by
      rw[eW _ _ _ _ _ _ (.inl hPb),eW _ _ _ _ _ _ (.inl hPb),eW _ _ _ _ _ _ (.inl hPb)];exact e5
     have s6:(((wr.drew.setCell ⟨bx,0,none⟩ (.slice none 0 0)).setCell ⟨bx,1,none⟩ (.slice none 0 0)).setCell ⟨bx,2,none⟩ (.slice none 0 0)).cell? ⟨P,6,none⟩=some (.int .i64 (p:Int)):=by
      rw[eW _ _ _ _ _ _ (.inl hPb),eW _ _ _ _ _ _ (.inl hPb),eW _ _ _ _ _ _ (.inl hPb)];exact e6
     obtain⟨y0,y1,y2⟩:=eY wr bx _ _ _ g0 g1 g2 (.slice none 0 0) (.slice none 0 0) (.slice none 0 0)
     have z0:(wr.setCell ⟨bx,0,none⟩ (.slice none 0 0)).cell? ⟨bx,0,none⟩=some (.slice none 0 0):=fR _ _ _ _ _ g0
     have z1:((wr.setCell ⟨bx,0,none⟩ (.slice none 0 0)).setCell ⟨bx,1,none⟩ (.slice none 0 0)).cell? ⟨bx,1,none⟩=some (.slice none 0 0):=fR _ _ _ _ _ ((eW _ _ _ _ _ _ (.inr xaa)).trans g1)
     have R:Hid (Kept 0 0 w (((wr.drew.setCell ⟨bx,0,none⟩ (.slice none 0 0)).setCell ⟨bx,1,none⟩ (.slice none 0 0)).setCell ⟨bx,2,none⟩ (.slice none 0 0))):=uD ((HK.out.trans HKz.out).trans (eC wr)) (Nat.le_of_eq HBx.out) _ _ _
     have HRe:Hid _:=hre
     clear fr HG HTw hch hre hD hPb HKz hc
     by_cases hlt2:i2<i
     ·exact xfg
     ·exact xfg
