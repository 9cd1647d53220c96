import Derived.Test.YtiacbhjphaldlaaGreatDoorP54
import Derived.Test.YtiacbhjphaldlaaGreatDoorP51
import Derived.Test.YtiacbhjphaldlaaGreatDoorP53
namespace Go.Proofs.Z
open YtiacbhjphaldlaaGreatDoor
open Tryz
set_option maxRecDepth 1000000
set_option maxHeartbeats 0
variable{X bB bG bQ i n ei k}
section
open Go.RowKit Flt
variable{w:World}{ts:List Tok}{a:Option Addr}{G:List Int}{t:List UInt8}{vs:List Value}{aI:List Sm}{s:Sm}{v:Value}{cap f:Nat}{r:Rs LSt}
theorem PF{I}(w):Sem.run prog (method 433 166 (.agg #[bG,bB,bQ,X,ei,I]) "loop.example/s08086/impl.carryOut") w=.ok (260,.agg #[bG,bB,bQ,X,ei,I]) w:=by kernel_rfl
theorem N1(w):Sem.run prog (method 433 168 (.agg #[bG,bB,bQ,X]) "loop.example/s08086/impl.carryOut") w=.ok (262,.agg #[bG,bB,bQ,X]) w:=by kernel_rfl
theorem N3{I}(w):Sem.run prog (method 433 170 (.agg #[bG,bB,bQ,X,ei,I,i]) "loop.example/s08086/impl.carryOut") w=.ok (263,.agg #[bG,bB,bQ,X,ei,I,i]) w:=by kernel_rfl
theorem N4(w):Sem.run prog (method 433 175 (.agg #[bG,bB,bQ,X,ei]) "loop.example/s08086/impl.carryOut") w=.ok (264,.agg #[bG,bB,bQ,X,ei]) w:=by kernel_rfl
theorem N6(w):Sem.run prog (method 433 137 (.agg #[bG,bB,bQ,X]) "loop.example/s08086/impl.carryOut") w=.ok (155,.agg #[bG,bB,bQ,X]) w:=by kernel_rfl
def SmX:Sm->Prop
 |.inS n l=>n.sym≠[]/\l.sym≠[]/\Dgs l.text/\l.text≠[]
 |.letS n e=>n.sym≠[]/\EOK e/\ENk e/\szE e<=10000
 |.rep i n e=>(i.sym≠[]/\Dgs i.text/\i.text≠[]/\n.sym≠[])/\EOK e/\ENk e/\szE e<=10000
 |.defS n ps e=>(n.sym≠[]/\(∀p∈ps,p.sym≠[]/\p.text≠[])/\ps.length<=1000000)/\EOK e/\ENk e/\szE e<=10000
 |.outS k e=>k.sym≠[]/\EOK e/\ENk e/\szE e<=10000
theorem SmX.ok(h:SmX s):M6 s:=by
 cases s with
 |inS n l=>exact h.2.2.1
 |letS n e=>exact h.2.1
 |rep i n e=>exact⟨h.1.2.1,h.2.1⟩
 |defS n ps e=>exact h.2.1
 |outS k e=>exact h.2.1
theorem Bo{ab}(h:NmS ab){s v}:NmS (ab++[.val s v]):=λbb ps body I=>by
 obtain c|c:=List.mem_append.1 I
 ·exact h _ _ _ c
 ·simp at c
theorem Bp{f e}(bl:EOK e)(bR:szE e<=10000)(i s):∀(k:Nat) (st s':LSt),StG st->kr f e i s k st=some (.ok s')->StG s'
 |0,st,s',g,h=>by rw[kr]at h;grind
 |k+1,st,s',g,h=>by
  obtain⟨r1,m,u,ap⟩:=yE h
  obtain q|⟨ak,v⟩:=r1
  ·grind
  ·obtain⟨bz,_,_,aD⟩:=g.eval bl bR m
   exact Bp bl bR i s k _ _ (bz.setV aD) (ap _ v rfl)
theorem GE{st s'}(g:StG st)(bL:st.names.length<5000)(ai:SmX s)(h:fF f st s=some (.ok s')):StG s'/\s'.names.length<=st.names.length+1:=by
 have k:=uG g.g g.m bL ai.ok h;suffices q:NmS _/\s'.calls<=500 from⟨⟨k.g,k.nm,q.1,q.2⟩,k.m⟩
 cases s with
 |outS t e=>
  simp only[fF]at h;by_cases c:50<=st.outs.length
  ·grind
  rw[h2 c]at h;cases z:dQ f st [] e with
  |none=>grind
  |some r1=>
   rw[z]at h;obtain q|⟨ak,v⟩:=r1
   ·cases h
   obtain⟨bz,_⟩:=g.eval ai.2.1 ai.2.2.2 z;cases h;exact⟨bz.s,bz.c⟩
 |rep i n e=>
  simp only[fF]at h;split at h
  ·split at h
   ·cases h
   have q:=Bp ai.2.1 ai.2.2.2 _ _ _ _ _ g h;exact⟨q.s,q.c⟩
  cases h
 |defS n ps e=>
  simp only[fF,lJ]at h;split at h
  ·cases h
  simp only[tR]at h;split at h
  ·cases h
  cases h;refine⟨λbb o body I=>?_,g.c⟩;obtain c|c:=List.mem_append.1 I
  ·exact g.s _ _ _ c
  simp at c;obtain⟨_,_,rfl⟩:=c;exact ai.2.2.2
 |letS n e=>
  simp only[fF,lJ]at h;split at h
  ·cases h
  cases z:dQ f st [] e with
  |none=>grind
  |some r1=>
   rw[z]at h;obtain q|⟨ak,v⟩:=r1
   ·cases h
   obtain⟨bz,_⟩:=g.eval ai.2.1 ai.2.2.2 z;cases h;exact⟨Bo bz.s,bz.c⟩
 |inS n l=>
  simp only[fF,lJ]at h;split at h
  ·cases h
  simp only[inR]at h;split at h
  ·cases h
  split at h
  ·cases h
  have h:=h4 h;unfold eg at h;split at h
  ·cases h
  cases h;exact⟨Bo g.s,g.c⟩
theorem Kx{E ρ st}(h:Tq E ρ w st [] [])(g:StG st)(ae:Sd w (λb=>b<E.N) v s)(ai:SmX s)(ah:fF f st s=some r):
  ∃T x fn,v=.iface T x/\(fn=260\/fn=262\/fn=263\/fn=264\/fn=155)/\(∀W,Sem.run prog (method 433 T x "loop.example/s08086/impl.carryOut") W=.ok (fn,x) W)/\Calls prog fn #[x,ge E.T] w (StX E ρ w r):=by
 cases ae with
 |@inS n l=>
  refine⟨_,_,_,rfl,.inl rfl,PF,?_⟩;have:r=inW st n l:=by grind[fF,lJ,inW]
  subst this;exact NX h g.g ai.1 ai.2.1 ai.2.2.1 ai.2.2.2
 |@letS n e v V=>
  obtain⟨F,aP,rfl⟩:=V.iface;refine⟨_,_,_,rfl,.inr (.inl rfl),N1,?_⟩
  obtain⟨aS,r1,m,b5⟩:∃aS r1,dQ aS _ _ e=some r1/\r=(match d8 st.names n.text with|some _=>.error (3,n.pos)|none=>mI _ r1):=by
   simp only[fF,lJ]at ah;cases bi:d8 st.names n.text with
   |none=>
    rw[bi]at ah;cases m:dQ f st [] e with
    |none=>rw[m]at ah;cases ah
    |some r1=>rw[m]at ah;exact⟨f,r1,m,(h4 ah).symm⟩
   |some b=>
    rw[bi]at ah;obtain⟨b2,bZ,bx⟩:=m8 st [] e;exact⟨_,_,bx _ yac,(h4 ah).symm⟩
  obtain⟨q,an⟩:=mD g.g g.m ai.2.1 m;rw[b5];exact yai (J3 h ai.1 V ai.2.2.1 (g.start ai.2.1 ai.2.2.2) an (λaG a K=>by rw[K]at m;exact(g.eval ai.2.1 ai.2.2.2 m).2.1)) (λ_ _ q=>q.e)
 |@rep i n e v V=>
  obtain⟨F,aP,rfl⟩:=V.iface;exact⟨_,_,_,rfl,.inr (.inr (.inl rfl)),N3,Kt h g ai.1.1 ai.1.2.1 ai.1.2.2.1 ai.1.2.2.2 V ai.2.2.1 ai.2.1 ai.2.2.2 ah⟩
 |@defS n ps e sl v aB av V=>
  obtain⟨F,aP,rfl⟩:=V.iface;refine⟨_,_,_,rfl,.inr (.inr (.inr (.inl rfl))),N4,?_⟩;have:r=C6 st n ps e:=by grind[fF,lJ,C6]
  subst this;exact Ku h ai.1.1 ai.1.2.1 ai.1.2.2 aB av V ai.2.2.1
 |@outS k e v V=>
  obtain⟨F,aP,rfl⟩:=V.iface;refine⟨_,_,_,rfl,.inr (.inr (.inr (.inr rfl))),N6,?_⟩
  obtain⟨aS,r1,m,b5⟩:∃aS r1,dQ aS st [] e=some r1/\r=(if 50<=st.outs.length then .error (5,k.pos)else EP r1):=by
   simp only[fF]at ah;by_cases c:50<=st.outs.length
   ·rw[h3 c]at ah;obtain⟨b2,bZ,bx⟩:=m8 st [] e;exact⟨_,_,bx _ yac,by simp_all⟩
   rw[h2 c]at ah;cases m:dQ f st [] e<;>grind
  obtain⟨q,an⟩:=mD g.g g.m ai.2.1 m;rw[b5];exact J4 h g.g.o ai.1 V ai.2.2.1 (g.start ai.2.1 ai.2.2.2) an (λaG a K=>by rw[K]at m;exact(g.eval ai.2.1 ai.2.2.2 m).2.2.1)
theorem wL(t):∀k∈eK t,TkC k:=sD t _
theorem Ky(h:(Tl t (eK t))[i]? =some k)(V:mH k=true):∃hi:i<(eK t).length,k=cvT (eK t)[i]/\isN (eK t)[i]/\k.text=(eK t)[i].text/\k.at_=(eK t)[i].pos:=by
 unfold Tl at h;obtain c|c:=Nat.lt_or_ge i (eK t).length
 ·rw[yar (by grind),List.getElem?_map,yal c]at h;grind[wL,vM,isN,mH,cvT]
 grind[clT,mH]
theorem Bq{hi:i<(eK t).length}(V:isN (eK t)[i]):∃k,(Tl t (eK t))[i]? =some k/\mH k=true/\k.text=(eK t)[i].text:=by
 refine⟨cvT (eK t)[i],?_,?_,?_⟩
 ·simp_all[Tl,List.getElem?_append_left]
 ·have H:=vM (wL t _ (List.getElem_mem hi));unfold mH;obtain q|q:=V
  ·grind
  grind
 have cd:(eK t)[i].sym≠[]:=by obtain q|q:=V<;>rw[q]<;>decide
 unfold cvT;grind
theorem Ad{x}(h:my (fh x)):dcM x=((fh x).countP dig:Nat):=by
 grind[zU,pF,dcM]
theorem Ae(f:TxA w a n t)(aY:n<=cap)(h:PaR t r):Calls prog 4 #[.slice a n cap] w (PaZ w (w.heap.size+1) r):=by
 have ab:=f.len;obtain⟨bw,rfl⟩|⟨bw,p,X,rfl⟩|⟨bw,X,i,c,z,J,al,bL,rfl⟩|⟨bw,X,H,aI,bM,Y,ah⟩:=h
 ·exact tH w a n xaa
 ·exact qM f xaa aY (by grind)
 ·exact uP f xaa aY (by grind) z J al bL
 exact uO f xaa aY (by grind) H Y ah
theorem Br(hi):(eK t).getD i h8=(eK t)[i]:=by
 simp_all
theorem GG(h:∀(j:Nat) (q:PTk),(Tl t (eK t))[j]? =some q->mH q=true->dcM q.text<=15):∀af∈eK t,isN af->iu af.text:=by
 intro af aR V;obtain⟨i,hi,rfl⟩:=List.getElem_of_mem aR;obtain⟨k,z,J,al⟩:=Bq V;have aG:=lk t _ _ aR V;have:=h i k z J;rw[al,Ad aG]at this;exact⟨aG,by omega⟩
theorem C7(z:(Tl t (eK t))[i]? =some k)(J:mH k=true)(al:15<dcM k.text)(bw:∀(j:Nat) (q:PTk),j<i->(Tl t (eK t))[j]? =some q->mH q=true->dcM q.text<=15)(ab:t.length<=4000)(X:dT t.length (eK t) [eE]=-1):PaR t (.error (5,k.at_)):=by
 obtain⟨hi,_,bb,ar,F⟩:=Ky z J;have aG:=lk t _ _ (List.getElem_mem hi) bb;refine .inr (.inr (.inl ⟨ab,X,i,5,hi,?_,?_,?_,?_⟩))
 ·grind
 ·rw[Br hi];refine .inr ⟨aG,?_,rfl⟩;rw[ar,Ad aG]at al;omega
 ·intro j aK V;have h:j<(eK t).length:=xaa;rw[Br h]at V⊢;obtain⟨q,bg,a8,bE⟩:=Bq V;have b:=lk t _ _ (List.getElem_mem h) V;have:=bw j q aK bg a8;rw[bE,Ad b]at this;exact⟨b,by omega⟩
 grind
theorem Kz{W b G}(h:PkR W b v G){g}(e:v.ownBlock=some g):g<W.heap.size:=by
 obtain⟨z,_⟩|⟨aY,cap,bp,z,_,J,_⟩:=h.2
 ·rw[z]at e;cases e
 rw[z]at e;have a6:aY=g:=by injection e
 grind
theorem Sd.lt{W Maa}(f:Sd W Maa v s):Sd W (λb=>b<W.heap.size) v s:=by
 cases f with
 |inS=>exact .inS
 |letS h=>exact .letS (h.lt.mono λb q=>q.2)
 |rep h=>exact .rep (h.lt.mono λb q=>q.2)
 |defS h J al=>exact .defS h (λb e=>Kz h e) (al.lt.mono λb q=>q.2)
 |outS h=>exact .outS (h.lt.mono λb q=>q.2)
theorem SdL.lt{W Maa}(f:SdL W Maa vs aI):SdL W (λb=>b<W.heap.size) vs aI:=⟨f.1,λj v s z J=>(f.2 j v s z J).lt⟩
theorem yH:¬my (fh []):=λ⟨p,h⟩=>by have:=h.pos;simp[fh]at this
theorem GH(aR:k∈eK t)(ai:k.sym≠[]):k.text≠[]:=by
 intro e;obtain h|⟨_,h⟩|⟨h,_⟩|⟨h,_⟩|⟨h,J⟩|⟨h,J⟩:=wL t k aR
 ·exact ai h
 ·rw[e]at h;revert h;decide
 ·have:=lk t _ k aR (.inl h);rw[e]at this;exact yH this
 ·have:=lk t _ k aR (.inr h);rw[e]at this;exact yH this
 ·grind
 grind
theorem Af{ps}(h:PPm ps ts):(∀p∈ps,p∈ts/\p.sym=eu)/\ps.length<=ts.length:=by
 induction h<;>simp_all<;>grind
structure TsG(ts:List Tok):Prop where
 x:∀t∈ts,t.sym≠[]->t.text≠[]
 n:∀t∈ts,t.sym=fx\/t.sym=iS->iu t.text
 i:∀t∈ts,t.sym=fx->Dgs t.text
 l:ts.length<=4000
theorem TsG.sub{us}(h:TsG ts)(ai:∀t∈us,t∈ts)(ab:us.length<=ts.length):TsG us:=⟨λt az=>h.x t (ai t az),λt az=>h.n t (ai t az),λt az=>h.i t (ai t az),yan ab h.l⟩
theorem TsG.all(ab:t.length<=4000)(h:∀af∈eK t,isN af->iu af.text):TsG (eK t):=
 ⟨λ_ H=>GH H,h,λk H ai=>F6 (tr t _ k H ai) (h k H (.inl ai)),yan (l7 t) ab⟩
theorem yI{e}(aB:Pr 2 [e] ts)(h:TsG ts):EOK e/\ENk e/\szE e<=10000:=by
 refine⟨ji aB h.i _ xac,MG aB h.x h.n _ xac,?_⟩;have z:=OV aB;have J:=h.l;simp only[szL]at z;omega
theorem P9(aB:PSm s ts)(h:TsG ts):SmX s:=by
 have cG:eu≠[]:=xab;have I:fx≠[]:=xab;cases aB with
 |@inS k n c l _ J _ bw=>
  have ab:l.sym≠[]:=by grind
  exact⟨by grind,ab,h.i l xac bw,h.x l xac ab⟩
 |@letS k n q e ts _ J _ F=>exact⟨by grind,yI F (h.sub (λt az=>by simp[az]) yaf)⟩
 |@rep k i n q e ts _ J al _ F=>
  have hi:i.sym≠[]:=by grind
  exact⟨⟨hi,h.i i xac J,h.x i xac hi,by grind⟩,yI F (h.sub (λt az=>by simp[az]) yaf)⟩
 |@def0 k n l r q e ts _ J _ _ _ F=>exact⟨⟨by grind,(λp aB=>by cases aB),by simp⟩,yI F (h.sub (λt az=>by simp[az]) yaf)⟩
 |@defS k n l r q e ps us ts _ J _ D _ _ F=>
  refine⟨⟨by grind,λp aB=>?_,?_⟩,yI F (h.sub (λt az=>by simp[az]) yaf)⟩
  ·have ai:p.sym≠[]:=by rw[((Af D).1 p aB).2];exact cG
   exact⟨ai,h.x p (by simp[((Af D).1 p aB).1]) ai⟩
  have z:=(Af D).2;have al:=h.l;grind
 |@outS k e ts H F=>exact⟨by rw[H];decide,yI F (h.sub (λt az=>by simp[az]) xac)⟩
theorem Qa(aB:PGm aI ts):TsG ts->∀s∈aI,SmX s:=by
 induction aB with
 |nil=>grind
 |@cons bq b e R c0 z J _ O=>
  intro h s ai;obtain rfl|ai:=List.mem_cons.1 ai
  ·exact P9 z (h.sub (λt az=>by simp[az]) xac)
  exact O (h.sub (λt az=>by simp[az]) yaf) s ai
theorem N7{Maa}(aw:w.ownsRow 0 90 1 v vs.length vs)(ae:SdL w Maa vs aI)(ab:t.length<=4000)(H:∀af∈eK t,isN af->iu af.text)(Y:PGm aI (eK t))(ah:kM f LSt.zero aI=some r):
  Calls prog 21 #[v] w (GoO w r):=by
 obtain⟨a,c,rfl⟩:=n7 aw;have C:=TsG.all ab H;refine NZ rfl aw ae.lt ?_ (Qa Y C) ah (λE ρ W st v s r1 q g b ar z=>Kx q g b ar z) (λst s' s g bL ar z=>GE g bL ar z);have z:=F1 Y;have J:=C.l;have al:=ae.1;omega
theorem GJ(f:TxA w a n t)(aY:n<=cap)(h:PaR t r):Calls prog 4 #[.slice a n cap] w (PJ w (lK r)):=by
 refine yai (Ae f aY h) λe D q=>?_;unfold PaZ at q;split at q
 ·obtain⟨rfl,k⟩:=q;exact zY _ _ k
 obtain⟨a9,bj,bI,rfl,ca,b6,aO,C,A,b,g,k⟩:=q;obtain⟨a1,c1,rfl⟩:=jM ca;obtain⟨a2,c2,rfl⟩:=jM b6;obtain⟨a3,c3,rfl⟩:=jM aO;refine⟨⟨_,_,_,_,_,_,rfl,g.k,?_⟩,k⟩;have lo:∀{T c:Nat}{v:Value}{m:Nat}{G:List _},D.ownsRow (w.heap.size+1) T c v m G->_:=λh=>pJ h (Nat.le_succ _);exact Gf k.size (lo ca) (lo b6) (lo aO) C A b
theorem PG(f:TxA w a n t)(aY:n<=cap)(aG:ErT w):Calls prog 6 #[.slice a n cap] w (IpO (PaR t) w):=by
 have ab:=f.len;refine Gv f aY aG (λh=>.inl ⟨by omega,rfl⟩) (λh p X=>.inr (.inl ⟨by omega,p,X,rfl⟩)) (λh X i k bg a8 bE cx=>C7 bg a8 bE cx xaa X) GG ?_;intro bw X H W v vs aI Maa aw ae Y;obtain⟨r,g,ch⟩:=sX aI LSt.zero;have ah:=ch g yac;exact⟨r,.inr (.inr (.inr ⟨by omega,X,H,aI,g,Y,ah⟩)),yai (N7 aw ae xaa H Y ah) λ_ _ q=>N0 q⟩
def b8(x:Int):UInt8:=UInt8.ofNat x.toNat
theorem PH(h:∀x∈G,0<=x/\x<256){k}(H:k<G.length):bt (G.map b8) k=G.getD k 0:=by
 unfold bt;have ar:=h _ (List.getElem_mem H);rw[yah,yah,List.getElem?_map,yal H];simp only[Option.map_some,Option.getD_some];unfold b8;generalize G[k]=x at ar;obtain⟨m,rfl⟩:=Int.eq_ofNat_of_zero_le ar.1;simp;omega
theorem yJ(f:YS w a n G):TxA w a n (G.map b8):=by
 refine⟨by rw[List.length_map];exact f.len,λV=>?_⟩;obtain aC|⟨g,aO,e,al,bw⟩:=f.at_
 ·omega
 exact⟨g,_,e,by rw[List.length_map];exact f.len,al,λk H=>by rw[PH f.lt (it f.len H)];grind⟩
theorem Ag:prog.inits.idxOf? 4=none:=by kernel_rfl
theorem yK{W c am}(f:YS W a n am)(l:ErT W)(V:n<=1048576):Calls prog 3 #[.slice a n c] W λe D=>e=.returned (.bool true)/\Kept 0 0 W D:=by
 obtain⟨b2,ai,bd⟩:=C4 (yJ f) (Nat.le_refl n)
 have i1:GLe (lK b2):=by
  obtain⟨e,D,fr,q,_⟩:=bd [];unfold PaZ at q;split at q
  ·exact⟨yad,yad,yad⟩
  obtain⟨_,_,_,_,_,_,_,_,_,_,g,_⟩:=q;exact⟨g.i,g.n,g.o⟩
 refine Kk W a n c f V l i1 (λaq L aQ=>GJ (yJ aQ) yac ai) (λaq L aQ b=>?_);refine yai (PG (yJ aQ) yac b) ?_;rintro e D ⟨r1,cf,aB,_⟩;obtain⟨v,Z,bw,p2⟩:=CX (GJ (yJ aQ) (Nat.le_refl n) ai) (GJ (yJ aQ) (Nat.le_refl n) cf) (λ_ _ q=>Gx q) (λ_ _ q=>Gx q) Ag;rw[PA bw p2];exact aB
end
end Go.Proofs.Z
namespace Go.Proofs.YtiacbhjphaldlaaGreatDoor
open Z
theorem fnExactParseSource_holds:Rows.FnExactParseSourceCardSaid:=wG λ_ _ _ _ _ f l V=>yK f l V
#print axioms fnExactParseSource_holds
end Go.Proofs.YtiacbhjphaldlaaGreatDoor
