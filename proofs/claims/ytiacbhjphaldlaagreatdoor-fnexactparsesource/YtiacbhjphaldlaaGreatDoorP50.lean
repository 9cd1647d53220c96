import Derived.Test.YtiacbhjphaldlaaGreatDoorP45
import Derived.Test.YtiacbhjphaldlaaGreatDoorP42
import Derived.Test.YtiacbhjphaldlaaGreatDoorP41
import Derived.Test.YtiacbhjphaldlaaGreatDoorP35
import Derived.Test.YtiacbhjphaldlaaGreatDoorP49
namespace Go.Proofs.Z
open Tryz
set_option maxRecDepth 1000000
set_option maxHeartbeats 0
variable{b c o}
section
open Go.RowKit Flt
variable{st:LSt}{k n:Tok}{ρ:Nat->Nat}{w:World}{ys G:List Nat}{a:Nat}{u v p:Value}{e f:Ex}{loc:Loc}{S:List TkV}
theorem Pt(h:ys.length=2):ys=[ys.getD 0 0,ys.getD 1 0]:=by
 match ys,h with
 |[a,b],_=>rfl
theorem P7(h:ys.length=3):ys=[ys.getD 0 0,ys.getD 1 0,ys.getD 2 0]:=by
 match ys,h with
 |[a,b,c],_=>rfl
theorem Nt(h:ys.length=2):lz st o (ys.getD 0 0) (ys.getD 1 0)=pfM st (lw o.sym) ys o.pos:=by
 grind[lz,pfM,Pt]
theorem Nu(h:ys.length=2)(H:k.sym=l8):kS st k (ys.getD 0 0) (ys.getD 1 0)=pfM st 7 ys k.pos:=by
 grind[kS,pfM,Pt]
theorem Nv(h:ys.length=3):po st k (ys.getD 0 0) (ys.getD 1 0) (ys.getD 2 0)=pfM st 8 ys k.pos:=by
 grind[po,pfM,P7]
theorem tu(n):(lenB n=false)↔(n<1\/1000<n):=by
 grind[lenB]
theorem J1(H:k.sym=mU):ju st k a n=yi st k.pos a n:=by
 unfold ju yi;rw[h2 (by rw[H];decide)];grind[tu]
theorem J2(H:k.sym=lO)(bo:Dgs n.text):ju st k a n=yh st k.pos a n:=by
 have aC:0<=ek n.text:=by
  have:=(lY bo yac).1;grind
 grind[ju,yh,jL]
theorem Nw{i}(bo:Dgs i.text):jK st k a i n=sV st k.pos a i n:=by
 have aC:0<=ek i.text:=by
  have:=(lY bo yac).1;grind
 grind[jK,sV,tu,jL]
theorem Pu{x d}(g:Gd st)(ar:x<st.vs.length):lX st k a x d=xZ st k.pos a x d:=by
 have:=g.lenB ar;unfold lX xZ sS;grind
theorem eC{W Maa sl vs}(f:Rw W Maa sl vs):∃a c,sl=.slice a vs.length c:=by
 obtain⟨h,aC⟩|⟨g,cap,bp,z,_⟩:=f.1.2<;>grind
theorem P8{E aO}(h:Tq E ρ w st aO G)(g:Gd st)(aR:NmOK st)(ae:Nd w (λb=>b<E.N) v e){mp}(aB:PrM w ρ (.map mp) loc)(o:LcOK loc st.vs.length)(H:ENk e)(bl:EOK e)(aS:jT st loc e=none)(aj:oJ e=false){b a5}(y:OfR w ρ a5 ys)(l:ys.length=(d7 e).length)(aY:∀i∈ys,i<st.vs.length):
  Calls prog 162 #[ge E.T,.agg #[v,.map mp,.bool b],a5] w (TqR E ρ w aO G (iQ st loc e ys)):=by
 have af:=H.t;have c:0<ys.length->_:=λaX=>y.form aX;cases ae with
 |num=>exact MN h g (af _ (by simp[tkE])).1 (H.n _ (by simp[nmE]))
 |name=>exact I6 h aB (af _ (by simp[tkE])).1
 |neg r aD=>
  obtain⟨a1,c1,rfl⟩:=eC r;rw[show(d7 _).length=1 from rfl]at l;obtain⟨bv,cap,rfl⟩:=c xaa;rw[l]at y⊢;exact A6 h g y aY _ 6
 |@exp k bM sl bh ai r aD=>
  obtain⟨a1,c1,rfl⟩:=eC r;rw[show(d7 _).length=1 from rfl]at l;obtain⟨bv,cap,rfl⟩:=c xaa;rw[l]at y⊢;have:=A6 (mp:=mp) (b:=b) h g y aY (a1:=a1) (n1:=1) (c1:=c1) k.pos 13;simp only[iQ,h3 ai];exact this
 |@sum k bM sl bh ai r aD=>
  obtain⟨a1,c1,rfl⟩:=eC r;rw[show(d7 _).length=1 from rfl]at l;obtain⟨bv,cap,rfl⟩:=c xaa;rw[l]at y⊢;simp only[iQ,h2 (show ¬k.sym=oA by rw[ai];decide)];exact E3 h g y
 |@dot k cg bK sl bh ai r aD=>
  obtain⟨a1,c1,rfl⟩:=eC r;have cd:¬k.sym=l8:=by rw[ai];decide
  simp only[d7,h2 cd,yap,List.length_nil]at l;obtain⟨bv,cap,rfl⟩:=c xaa;rw[l]at y⊢;simp only[iQ,h2 cd];exact E3 h g y
 |bin r aD bd=>
  obtain⟨a1,c1,rfl⟩:=eC r;rw[show(d7 _).length=2 from rfl]at l;obtain⟨bv,cap,rfl⟩:=c xaa;rw[l]at y⊢;simp only[iQ,Nt l];exact AS h g y aY
 |@max k cg bK sl bh aw ai r aD bd=>
  obtain⟨a1,c1,rfl⟩:=eC r;simp only[d7,h3 ai,yap,List.length_nil]at l;obtain⟨bv,cap,rfl⟩:=c xaa;rw[l]at y⊢;simp only[iQ,h3 ai,Nu l ai];exact AS h g y aY
 |@sel k cg bK c0 sl bh aw bG ai r aD bd ar=>
  obtain⟨a1,c1,rfl⟩:=eC r;rw[show(d7 _).length=3 from rfl]at l;obtain⟨bv,cap,rfl⟩:=c xaa;rw[l]at y⊢;simp only[iQ,Nv l];exact I7 h g y aY
 |@fill k n bM sl bh ai r aD=>
  obtain⟨a1,c1,rfl⟩:=eC r;rw[show(d7 _).length=1 from rfl]at l;obtain⟨bv,cap,rfl⟩:=c xaa;rw[l]at y⊢;have az:=af n (show n∈tkE _ by grind[tkE]);cases bl with
  |keyN _ _ bo=>
   simp only[iQ,J1 ai];exact JC h g y aY bo az.1 az.2
 |@pick k n bM sl bh ai r aD=>
  obtain⟨a1,c1,rfl⟩:=eC r;rw[show(d7 _).length=1 from rfl]at l;obtain⟨bv,cap,rfl⟩:=c xaa;rw[l]at y⊢;have az:=af n (show n∈tkE _ by grind[tkE]);cases bl with
  |keyN _ _ bo=>
   simp only[iQ,J2 ai bo];exact JB h g y aY bo az.1 az.2
 |@put k i n bM sl bh r aD=>
  obtain⟨a1,c1,rfl⟩:=eC r;rw[show(d7 _).length=1 from rfl]at l;obtain⟨bv,cap,rfl⟩:=c xaa;rw[l]at y⊢;have B:=af i (show i∈tkE _ by grind[tkE]);have dd:=af n (show n∈tkE _ by grind[tkE]);cases bl with
  |put _ _ bo D=>
   simp only[iQ,Nw bo];exact M0 h g y aY bo B.1 B.2 D dd.1 dd.2
 |@grad k x bM sl bh r aD=>
  obtain⟨a1,c1,rfl⟩:=eC r;rw[show(d7 _).length=1 from rfl]at l;obtain⟨bv,cap,rfl⟩:=c xaa;rw[l]at y⊢;have az:=af x (show x∈tkE _ by grind[tkE]);cases z:dX st loc x with
  |error q=>simp only[jT,z]at aS;cases aS
  |ok u=>
   have:=I8 (p:=k.pos) (b:=b) (a1:=a1) (n1:=1) (c1:=c1) h g y aY aB az.1 z (jP aR o z);simp only[iQ,z];exact this
 |@jvp k x bM cc sl bh aw r aD aT=>
  obtain⟨a1,c1,rfl⟩:=eC r;rw[show(d7 _).length=2 from rfl]at l;obtain⟨bv,cap,rfl⟩:=c xaa;rw[l]at y⊢;have az:=af x (show x∈tkE _ by grind[tkE]);cases z:dX st loc x with
  |error q=>simp only[jT,z]at aS;cases aS
  |ok u=>
   have j:=jP aR o z;have:=MP (p:=k.pos) (b:=b) (a1:=a1) (n1:=2) (c1:=c1) h g y aY aB az.1 z j;simp only[iQ,z,Pu g j];exact this
 |call=>cases aj
theorem wC{W}(h:PrM W ρ p loc):∃mp,p=.map mp:=by
 obtain⟨e,_⟩|⟨q,e,_⟩:=h<;>grind
theorem NdL.one{W Maa}(h:Nd W Maa v e):NdL W Maa [v] [e]:=NdL.snoc (NdL.nil W Maa) h
theorem NdL.two{W Maa}(h:Nd W Maa v e)(k:Nd W Maa u f):NdL W Maa [v,u] [e,f]:=NdL.snoc (NdL.one h) k
theorem NdL.three{W Maa x g}(h:Nd W Maa v e)(k:Nd W Maa u f)(l:Nd W Maa x g):NdL W Maa [v,u,x] [e,f,g]:=NdL.snoc (NdL.two h k) l
def EnR(E:Tqe)(ρ:Nat->Nat)(w:World)(st:LSt)(L:List TkV)(xs:List Nat)(loc:Loc)(e0:Ex)(e:Ending)(w':World):Prop:=
 match jT st loc e0 with
 |some (c,q)=>e=Thr c (q:Nat)/\Kept 0 0 w w'
 |none=>EnO E ρ w st L xs loc (d7 e0) e w'
theorem Ga{W Maa}:Rw W Maa (.slice none 0 0) []:=⟨yau W (b:=0) 134 (s:=1),λb e=>by cases e⟩
theorem Gb{E}(h:Tq E ρ w st (⟨v,p,⟨e,loc,true⟩⟩::S) G)(ab:(⟨v,p,⟨e,loc,true⟩⟩::S).length+(d7 e).length<=40000000)(aR:(d7 e).length<=10000000)(b):
  Calls prog 159 #[ge E.T,.agg #[v,p,.bool b]] w (EnR E ρ w st (⟨v,p,⟨e,loc,true⟩⟩::S) G loc e):=by
 have K:=h;obtain⟨u1,u3,Y,bm,am,ax,C⟩:=K;obtain⟨ae,aM,H⟩:=C.l _ (List.mem_cons_self ..);simp only at ae aM H;obtain⟨mp,rfl⟩:=wC aM;clear ax C;have af:=H.t
 have mk:∀{a1:Option Addr}{n1 c1:Nat}{rs:List Value},Rw w (λb=>b<E.N) (.slice a1 n1 c1) rs->NdL w (λb=>b<E.N) rs (d7 e)->rs.length=n1->EnI E ρ w (⟨v,.map mp,⟨e,loc,true⟩⟩::S) a1 n1 c1 mp loc rs (d7 e):=λ{a1 n1 c1 rs} r I g=>by
  have ay:(d7 e).length=n1:=iv I.1 g
  exact⟨r,I,g,H.kids,⟨_,List.mem_cons_self ..,rfl,rfl⟩,iv ay ab,iv ay aR⟩
 cases ae with
 |num=>exact ic h (mk Ga (NdL.nil _ _) rfl) (λW=>eJ _ _ _ _ _ W) xab xab xab
 |name=>exact ic h (mk Ga (NdL.nil _ _) rfl) (λW=>eL _ _ _ _ _ W) xab xab xab
 |neg r aD=>obtain⟨a1,c1,rfl⟩:=eC r;exact ic h (mk r (NdL.one aD) rfl) (λW=>ez _ _ _ W) xab xab xab
 |exp ai r aD=>obtain⟨a1,c1,rfl⟩:=eC r;exact ic h (mk r (NdL.one aD) rfl) (λW=>ez _ _ _ W) xab xab xab
 |sum ai r aD=>obtain⟨a1,c1,rfl⟩:=eC r;exact ic h (mk r (NdL.one aD) rfl) (λW=>eH _ _ W) xab xab xab
 |@dot k cg bK sl bh ai r aD=>
  obtain⟨a1,c1,rfl⟩:=eC r;have cd:¬k.sym=l8:=by rw[ai];decide
  have B:d7 (.key2 k cg bK)=[.bin ⟨[42],k.pos,k.text⟩ cg bK]:=by simp only[d7,h2 cd]
  exact ic h (mk r (by rw[B];exact NdL.one aD) rfl) (λW=>eH _ _ W) xab xab xab
 |bin r aD bd=>obtain⟨a1,c1,rfl⟩:=eC r;exact ic h (mk r (NdL.two aD bd) rfl) (λW=>dY _ _ _ W) xab xab xab
 |@max k cg bK sl bh aw ai r aD bd=>
  obtain⟨a1,c1,rfl⟩:=eC r;have B:d7 (.key2 k cg bK)=[cg,bK]:=by simp only[d7,h3 ai]
  exact ic h (mk r (by rw[B];exact NdL.two aD bd) rfl) (λW=>dY _ _ _ W) xab xab xab
 |sel ai r aD bd ar=>obtain⟨a1,c1,rfl⟩:=eC r;exact ic h (mk r (NdL.three aD bd ar) rfl) (λW=>dY _ _ _ W) xab xab xab
 |fill ai r aD=>obtain⟨a1,c1,rfl⟩:=eC r;exact ic h (mk r (NdL.one aD) rfl) (λW=>eM _ _ _ _ _ W) xab xab xab
 |pick ai r aD=>obtain⟨a1,c1,rfl⟩:=eC r;exact ic h (mk r (NdL.one aD) rfl) (λW=>eO _ _ _ _ _ W) xab xab xab
 |put r aD=>obtain⟨a1,c1,rfl⟩:=eC r;exact ic h (mk r (NdL.one aD) rfl) (λW=>eQ _ _ _ _ _ _ _ _ W) xab xab xab
 |@grad k x bM sl bh r aD=>
  obtain⟨a1,c1,rfl⟩:=eC r;have az:=af x (show x∈tkE (.grad k bM x) by simp only[tkE];exact h5 _ (List.mem_cons_self ..));unfold EnR;cases z:dX st loc x with
  |error q=>
   obtain⟨c,q⟩:=q;simp only[jT,z];exact uN h aM az.1 z (.inl rfl)
  |ok u=>
   simp only[jT,z];exact Bh h (mk r (NdL.one aD) rfl) az.1 z (.inl rfl)
 |@jvp k x bM cc sl bh aw r aD aT=>
  obtain⟨a1,c1,rfl⟩:=eC r;have az:=af x (show x∈tkE (.jvp k bM x cc) by simp only[tkE];exact h5 _ (List.mem_cons_self ..));unfold EnR;cases z:dX st loc x with
  |error q=>
   obtain⟨c,q⟩:=q;simp only[jT,z];exact uN h aM az.1 z (.inr rfl)
  |ok u=>
   simp only[jT,z];exact Bh h (mk r (NdL.two aD aT) rfl) az.1 z (.inr rfl)
 |@call k es sl vs r bD aD=>
  obtain⟨a1,c1,rfl⟩:=eC r;have az:=af k (show k∈tkE (.call k es) by simp only[tkE];exact List.mem_cons_self ..)
  have l:jT st loc (.call k es)=match fnE st k.text es.length with|some _=>none|none=>some (3,k.pos):=by
   unfold fnE;simp only[jT];cases d8 st.names k.text with
   |none=>rfl
   |some b=>
    cases b with
    |val _ _=>rfl
    |fn _ ps _=>
     by_cases c:ps.length=es.length
     ·simp only[h3 c]
     simp only[h2 c]
  unfold EnR;rw[l];cases bi:fnE st k.text es.length with
  |none=>exact wA h az.1 (it bD bi)
  |some aX=>exact CU h (mk r ⟨bD,aD⟩ rfl) az.1 (it bD bi)
def LvR(E:Tqe)(ρ:Nat->Nat)(w:World)(S:List TkV)(r:Rs Cnf)(e:Ending)(w':World):Prop:=
 (∃c ks ρ',r=.ok c/\e=.returned (.tuple #[])/\Tq E ρ' w' c.st (ks++S) c.xs/\c.ks=ks.map (·.t)++S.map (·.t)/\Sco ρ w ρ' w')\/(∃c p,r=.error (c,p)/\e=Thr c (p:Nat)/\Chg (λb=>ρ b≠0) w w')
theorem Nx{E}(h:Tq E ρ w st S G)(aj:CnG st (⟨e,loc,true⟩::S.map (·.t)) G)(ae:Nd w (λb=>b<E.N) v e)(aM:PrM w ρ p loc)(H:ENk e)(aS:jT st loc e=none)(V:(d7 e).length<=G.length)(b):
  Calls prog 158 #[ge E.T,.agg #[v,p,.bool b]] w (LvR E ρ w S (jE st ⟨e,loc,true⟩ (S.map (·.t)) G)):=by
 obtain⟨mp,rfl⟩:=wC aM;have s:=aj.lenK;have aZ:S.length<=50000000:=by grind
 have bl:=aj.k _ (List.mem_cons_self ..);cases g:oJ e with
 |true=>
  cases ae with
  |@call k es sl vs r bD aD=>
   obtain⟨a1,c1,rfl⟩:=eC r;have az:=H.t k (show k∈tkE _ by simp only[tkE];grind);have l:es.length<=G.length:=V;rw[bD];refine yai (CT h aZ aj.c az.1 l xaa xaa) ?_;intro m D ah;have i1:(G.drop (G.length-es.length)).length=es.length:=by grind
   have o:jE _ ⟨.call k _,loc,true⟩ (S.map (·.t)) G=py st k es _ _ _:=rfl;rw[o];unfold py;obtain⟨z,J,al⟩|⟨z,J,al,bw⟩|⟨z,ps,body,T,x,q,ρ',J,al,bw,bL⟩:=ah
   ·rw[h3 z];exact .inr ⟨5,_,rfl,J,al⟩
   ·rw[h2 xaa];rw[i1]at J;refine .inr ⟨3,_,?_,al,bw⟩;grind[fnE]
   rw[h2 xaa];rw[i1]at J;unfold fnE at J;cases bi:d8 st.names k.text with
   |none=>grind
   |some b=>
    rw[bi]at J;cases b with
    |val _ _=>cases J
    |fn _ R br=>
     simp only at J⊢;by_cases c:R.length=es.length
     ·rw[h3 c]at J;cases J;rw[h3 c];exact .inl ⟨_,[_],_,rfl,al,bw,rfl,bL⟩
     grind
  |_=>cases g
 |false=>
  have y:∀{n1:Nat},(d7 e).length=n1->∀W a5,Tq E _ W _ S (G.take (G.length-n1))->OfR W _ a5 (G.drop (G.length-n1))->Sco ρ w ρ W->PrM W ρ _ loc->Nd W _ v e->Calls _ _ #[.pointer _,.agg #[v,.map mp,.bool b],a5] W (TqR E _ W S (G.take (G.length-n1)) (iQ _ _ e (G.drop (G.length-n1)))):=λ{n1} a6 W a5 an av ai aB aT=>by
   subst a6
   exact P8 an aj.g aj.m aT aB bl.2 H bl.1 aS g av (by grind) (λi hi=>aj.x i (List.mem_of_mem_drop hi))
  have j:∀{r:Rs _}{n1:Nat}{m:Ending}{D:World},(d7 e).length=n1->r=iQ _ _ e (G.drop (G.length-n1))->LvO E ρ w S (G.take (G.length-n1)) r m D->LvR E _ w S (jE st _ _ _) m D:=λ{r n1 m D} a6 ah aN=>by
   subst a6
   have K:G=G.take (G.length-(d7 e).length)++G.drop _:=(List.take_append_drop _ _).symm
   have ab:jE st ⟨e,loc,true⟩ (S.map (·.t)) G=Ca r (S.map (·.t)) (G.take (G.length-(d7 e).length)):=by
    have:=qg (st:=st) (loc:=loc) (b:=true) (S:=S.map (·.t)) (X:=G.take (G.length-(d7 e).length)) (ys:=G.drop (G.length-(d7 e).length)) g (by rw[List.length_drop];omega)
    rw[<-K]at this
    rw[this,ah]
   rw[ab]
   obtain⟨aG,a,ρ',z,J,al,bw⟩|⟨c,p,z,J,al⟩:=aN
   ·rw[z]
    exact .inl ⟨_,[],_,rfl,J,al,rfl,bw⟩
   ·rw[z]
    exact .inr ⟨c,p,rfl,J,al⟩
  have t:∀W,Chg (λb=>b=E.T) w W->PrM W _ _ _/\Nd W _ v e:=λW c=>by
   obtain⟨_,_,_,_,_,_,C⟩:=h
   refine⟨aM.chg c (λb q=>by have q:=q;rw[q,C.rT];decide) (λ_ _=>rfl),ae.chg c (λb q I=>?_)⟩
   have q:=q
   have z:=C.r0 b I
   have J:=C.rT
   grind
  have ap:∀{F:TypeId}{bG:Value}{p:Int}{a1:Option _}{n1 c1:Nat},v=.iface F bG->(d7 e).length=n1->(∀W,Sem.run _ (method _ F bG _) W=.ok (268,.agg #[.int _ p,.slice a1 n1 c1]) W)->F≠203->Calls _ _ #[.pointer _,.agg #[v,.map _,.bool b]] w _:=λ{F bG p a1 n1 c1} aD a6 bp C=>by
   subst aD
   refine yai (CV h xaa xaa bp (λW=>fS _ _ W C) (λW a5 an av ai bb=>y a6 W _ an av ai (t W bb).1 (t W bb).2)) ?_
   intro m D aN
   exact j a6 rfl aN
  cases ae with
  |num=>exact ap rfl rfl (λW=>eJ _ _ _ _ _ W) xab
  |name=>exact ap rfl rfl (λW=>eL _ _ _ _ _ W) xab
  |neg r aD=>obtain⟨a1,c1,rfl⟩:=eC r;exact ap rfl rfl (λW=>ez _ _ _ W) xab
  |exp ai r aD=>obtain⟨a1,c1,rfl⟩:=eC r;exact ap rfl rfl (λW=>ez _ _ _ W) xab
  |sum ai r aD=>obtain⟨a1,c1,rfl⟩:=eC r;exact ap rfl rfl (λW=>eH _ _ W) xab
  |@dot k cg bK sl bh ai r aD=>
   obtain⟨a1,c1,rfl⟩:=eC r;have cd:¬k.sym=l8:=by rw[ai];decide
   exact ap rfl (by simp only[d7,h2 cd];rfl) (λW=>eH _ _ W) xab
  |bin r aD bd=>obtain⟨a1,c1,rfl⟩:=eC r;exact ap rfl rfl (λW=>dY _ _ _ W) xab
  |@max k cg bK sl bh aw ai r aD bd=>
   obtain⟨a1,c1,rfl⟩:=eC r;exact ap rfl (by simp only[d7,h3 ai];rfl) (λW=>dY _ _ _ W) xab
  |sel ai r aD bd ar=>obtain⟨a1,c1,rfl⟩:=eC r;exact ap rfl rfl (λW=>dY _ _ _ W) xab
  |fill ai r aD=>obtain⟨a1,c1,rfl⟩:=eC r;exact ap rfl rfl (λW=>eM _ _ _ _ _ W) xab
  |pick ai r aD=>obtain⟨a1,c1,rfl⟩:=eC r;exact ap rfl rfl (λW=>eO _ _ _ _ _ W) xab
  |put r aD=>obtain⟨a1,c1,rfl⟩:=eC r;exact ap rfl rfl (λW=>eQ _ _ _ _ _ _ _ _ W) xab
  |grad r aD=>obtain⟨a1,c1,rfl⟩:=eC r;exact ap rfl rfl (λW=>eA _ _ _ _ _ W) xab
  |jvp r aD aT=>obtain⟨a1,c1,rfl⟩:=eC r;exact ap rfl rfl (λW=>eI _ _ _ _ _ W) xab
  |call=>cases g
end
section
open Go.RowKit Flt
attribute[local go_sem] dI dG dF gh gj gn mkF
variable{st:LSt}{ρ:Nat->Nat}{S:List Tsk}{ins outs:List Int}{vs:List Vl}{r:Rs (LSt×Nat)}{names:List Bdg}{calls g cap:Nat}{G:List Nat}{u1 am u3 Y:Value}
theorem zW{a}(h:b.names=a.names)(loc e):jT b loc e=jT a loc e:=by
 cases e<;>grind[jT,mC]
def EntI(st:LSt)(ks:List Tsk):Prop:=∀t∈ks,t.ent=true->jT st t.loc t.e=none
theorem wD{t}(e:jE st t S G=.ok c):c.st.names=st.names/\∃O,c.ks=O++S/\∀k∈O,k.ent=false:=by
 obtain⟨f,J,C⟩:=t;cases aj:oJ f with
 |true=>
  cases f with
  |call af es=>
   unfold jE py at e;simp only at e;by_cases d:500<=st.calls
   ·grind
   rw[h2 d]at e;cases bi:d8 st.names af.text with
   |none=>grind
   |some b=>
    rw[bi]at e;cases b with
    |val _ _=>cases e
    |fn bb ps body=>
     simp only at e;by_cases bA:ps.length=es.length
     ·rw[h3 bA]at e;cases e;exact⟨rfl,[_],rfl,λk H=>by grind⟩
     grind
  |_=>cases aj
 |false=>
  have:jE st ⟨f,J,C⟩ S G=Ca (iQ st J f (G.drop (G.length-(d7 f).length))) S (G.take (G.length-(d7 f).length)):=by
   cases f<;>first|rfl|cases aj
  rw[this]at e;cases aD:iQ st J f (G.drop (G.length-(d7 f).length)) with
  |error q=>rw[aD]at e;cases e
  |ok aX=>
   obtain⟨ak,a⟩:=aX;rw[aD]at e;cases e;exact⟨by show ak.names=_;rw[ES st J f _ ak a aD],[],rfl,λk H=>by cases H⟩
theorem EntI.leave{t}(h:EntI st (t::S))(e:jE st t S G=.ok c):EntI c.st c.ks:=by
 obtain⟨V,O,H,bi⟩:=wD e;intro k aR aS;rw[H]at aR;rw[zW V];obtain aR|aR:=List.mem_append.1 aR
 ·grind
 exact h k (h5 _ aR) aS
theorem EntI.enter{e loc}(h:EntI st (⟨e,loc,false⟩::S))(aC:jT st loc e=none):EntI st ((d7 e).map (mkT loc)++⟨e,loc,true⟩::S):=by
 intro k aR aS;obtain aR|aR:=List.mem_append.1 aR
 ·grind
 obtain rfl|aR:=List.mem_cons.1 aR
 ·exact aC
 exact h k (h5 _ aR) aS
theorem TqT.top{E W y S bm}(h:TqT E ρ W names calls (y::S) G bm am):∃g cap,bm=hZ g (S.length+1) cap/\g<W.heap.size/\W.cell? ⟨g,S.length*3,none⟩=some y.v/\W.cell? ⟨g,S.length*3+1,none⟩=some y.p/\W.cell? ⟨g,S.length*3+2,none⟩=some (.bool y.t.ent)/\S.length+1<=cap:=by
 obtain⟨_,a6⟩|⟨g,cap,bp,K,L,bi,U,_⟩:=h.k.2
 ·simp at a6
 have I:bm.ownBlock=some g:=i0 K
 have aj:=h.k.cells I;have ab:(tkC S.reverse).length=S.length*3:=by rw[pB,List.length_reverse]
 have ar:∀j u,y.cells[j]? =some u->(tkC (y::S).reverse)[S.length*3+j]? =some u:=λj u bd=>by
  simp_all[pA,rh,List.getElem?_append_right]
 refine⟨g,_,i0 K,(dO h.k I).2,?_,?_,?_,U⟩
 ·have:=aj _ _ (ar 0 _ rfl);grind[fL]
 ·have:=aj _ _ (ar 1 _ rfl);rwa [fL,Nat.zero_add]at this
 have:=aj _ _ (ar 2 _ rfl);rwa [fL,Nat.zero_add]at this
theorem Tq.pop{E W y S}
  (ax:TqB E ρ W ins vs outs u1 u3 Y) (C:TqT E ρ W names calls (y::S) G (hZ g (S.length+1) cap) am):
  TqB E ρ (W.setCell ⟨E.T,4,none⟩ (hZ g S.length cap)) ins vs outs u1 u3 Y/\TqT E ρ (W.setCell ⟨E.T,4,none⟩ (hZ g S.length cap)) names calls S G (hZ g S.length cap) am/\Sco ρ W ρ (W.setCell ⟨E.T,4,none⟩ (hZ g S.length cap)):=by
 have c2:Chg (λb=>b=E.T) W (W.setCell ⟨_,4,_⟩ (hZ g S.length cap)):=dV _ _ _ _ rfl
 have aw:W.ownsRow E.N 232 3 (hZ g S.length cap) S.length (tkC S.reverse):=by
  obtain⟨K,_⟩|⟨aY,cap',bp,K,L,bi,U,ae,aF,ah⟩:=C.k.2
  ·cases K
  cases K;refine⟨by rw[pB,List.length_reverse],.inr ⟨g,cap,bp,rfl,L,bi,by rw[yap]at U;omega,ae,aF,?_⟩⟩;have ab:(tkC S.reverse).length=S.length*3:=by rw[pB,List.length_reverse]
  have:=congrArg (List.take (S.length*3)) ah;rw[List.take_take,Nat.min_eq_left (by grind),List.reverse_cons,pA,List.take_append_of_le_length xaa]at this;grind
 have J:=C.rT;refine⟨ax.chg c2 (λb _ q=>by grind) (λ_ _=>rfl),TqT.own C c2 (λb _ q=>.inl (by grind)) (λ_ _=>rfl) (λb I=>C.rN b (yan c2.size I)) (C.toTcC.set4 _) (fH aw c2 (λb e q=>?_)) (λb e=>C.rk b (by simpa[Value.ownBlock] using e)) (fH C.x c2 (λb e q=>?_)) C.rx (λaX bR=>C.l aX (h5 _ bR)),Sco.of c2 (λb _ q=>by grind) (λ_ _=>rfl)⟩
 ·have:=C.rk b (by simpa[Value.ownBlock] using e);grind
 have:=C.rx b e;grind
theorem Tq.mark{E W v p e loc bK S}
  (ax:TqB E ρ W ins vs outs u1 u3 Y) (C:TqT E ρ W names calls (⟨v,p,⟨e,loc,bK⟩⟩::S) G (hZ g (S.length+1) cap) am):
  TqB E ρ (W.setCell ⟨g,S.length*3+2,none⟩ (.bool true)) ins vs outs u1 u3 Y/\TqT E ρ (W.setCell ⟨g,S.length*3+2,none⟩ (.bool true)) names calls (⟨v,p,⟨e,loc,true⟩⟩::S) G (hZ g (S.length+1) cap) am/\Sco ρ W ρ (W.setCell ⟨g,S.length*3+2,none⟩ (.bool true)):=by
 have c2:Chg (λb=>b=g) W (W.setCell ⟨g,S.length*3+2,_⟩ (.bool true)):=dV _ _ _ _ rfl;have m:=C.rk g rfl;have s:¬E.T=g:=λq=>by have:=C.rT;grind
 have aw:(W.setCell ⟨g,S.length*3+2,none⟩ (.bool true)).ownsRow E.N 232 3 (hZ g (S.length+1) cap) ((⟨v,p,⟨e,loc,true⟩⟩:TkV)::S).length (tkC ((⟨v,p,⟨e,loc,true⟩⟩:TkV)::S).reverse):=by
  obtain⟨K,_⟩|⟨aY,cap',bp,K,L,bi,U,ae,aF,ah⟩:=C.k.2
  ·cases K
  cases K;refine⟨by rw[pB,List.length_reverse],.inr ⟨g,cap,_,rfl,L,heap_setCell_same W g _ bp _ _ bi,U,ae,by rw[Array.size_setIfInBounds];exact aF,?_⟩⟩;have ab:(tkC S.reverse).length=S.length*3:=by rw[pB,List.length_reverse]
  rw[Array.toList_setIfInBounds,List.take_set];have a:List.take ((S.length+1)*3) _=tkC _:=ah;rw[show((⟨v,p,_⟩:TkV)::S).length=S.length+1 from rfl,a,List.reverse_cons,List.reverse_cons,pA,pA,rh,rh,List.set_append_right _ _ xaa,ab,Nat.add_sub_cancel_left];rfl
 refine⟨ax.chg c2 (λb _ q=>by grind) (λ_ _=>rfl),TqT.own C c2 (λb _ q=>.inr (.inl (by grind))) (λ_ _=>rfl) (λb I=>C.rN b (yan c2.size I)) (C.toTcC.chg c2 s) aw C.rk (fH C.x c2 (λb e q=>?_)) C.rx (λaX bR=>?_),Sco.of c2 (λb _ q=>by grind) (λ_ _=>rfl)⟩
 ·have:=C.rx b e;grind
 obtain rfl|bR:=List.mem_cons.1 bR
 ·exact C.l ⟨v,p,⟨e,_,bK⟩⟩ (List.mem_cons_self ..)
 exact C.l aX (h5 _ bR)
def TrL(E:Tqe)(ρ:Nat->Nat)(w:World)(R:Rs (LSt×List Nat))(k:Nat)(W:World):Prop:=
 ∃ρ' st L xs,Tq E ρ' W st L xs/\Sco ρ w ρ' W/\CnG st (L.map (·.t)) xs/\EntI st (L.map (·.t))/\jw k st (L.map (·.t)) xs=some R
theorem Bi:∀(es:List Ex),es.length<=szL es
 |[]=>yac
 |e::r=>by
  have:=Bi r
  have:=EQ e
  rw[szL,yap]
  omega
theorem yw{p}(h:some (qP r)=some (.error (c,p))):r=.error (c,p):=by
 cases r with
 |error q=>
  have e:q=(c,p):=by injection h with h;injection h
  rw[e]
 |ok aX=>obtain⟨s,a⟩:=aX;injection h with h;cases h
def TcO(E:Tqe)(ρ:Nat->Nat)(w:World)(r:Rs (LSt×Nat))(e:Ending)(w':World):Prop:=
 (∃st' a ρ',r=.ok (st',a)/\e=.returned (.int .i64 (a:Int))/\Tq E ρ' w' st' [] []/\Sco ρ w ρ' w')\/(∃c p,r=.error (c,p)/\e=Thr c (p:Nat)/\Chg (λb=>ρ b≠0) w w')
theorem zX{E w}(h:Tq E ρ w st [] []){F aP bM}(ae:Nd w (λb=>b<E.N) (.iface F aP) bM)(H:ENk bM)(aj:CnG st [mkT [] bM] []){n}(ah:jw n st [mkT [] bM] []=some (qP r)):
  Calls prog 156 #[ge E.T,.iface F aP] w (TcO E ρ w r):=by
 have bj:M _:=EV h xab ae H (.inl ⟨rfl,rfl⟩);have aE:=Q aj;have aF:=Q ah;clear h ae H aj ah;go_enter func156,ntmps156;go_upto_region 2 with (go_at_call 157;refine yai bj.o ?_;rintro e aa ⟨rfl,bX,bg,ak⟩;have aK:M _:=h1 bg ak;clear bg ak);have cn:M (TrL E _ w _ n _):=⟨_,_,_,_,aK.o.1,aK.o.2,aE.o,(λt az bl=>by rw[List.mem_singleton.1 (show t∈[mkT [] _] from az)]at bl;cases bl),aF.o⟩
 clear aK bj aE aF;go_loopg [] n (λq W=>M (TrL E ρ w (qP r) q W))
 case atStart=>exact cn
 case round=>
  obtain⟨aC,st2,aO,f,an,ai,aV,aw,ar⟩:=hrel.o;clear hrel;obtain⟨u1,u3,Y,bm,am,ax,C⟩:=an;have bs:=C.t4;have a8:=C.fz 4;have aN:=C.lt;cases aO with
  |nil=>
   have au:qP r=.ok (st2,f):=by
    have:jw gk st2 [] f=some (.ok (st2,f)):=by cases gk<;>rfl
    exact h4 (ar.symm.trans this)
   obtain⟨a,bu,bF⟩:∃a,r=.ok (st2,a)/\f=[a]:=by
    cases r with
    |error q=>cases au
    |ok aX=>
     obtain⟨s',ap⟩:=aX;have:(s',[ap])=(st2,f):=by injection au
     cases this;exact⟨_,rfl,rfl⟩
   subst bF
   obtain⟨be,x,rfl⟩:∃be x,bm=.slice be 0 x:=by
    obtain⟨K,_⟩|⟨g,cap,bp,K,_⟩:=C.k.2
    ·exact⟨_,0,K⟩
    exact⟨_,_,K⟩
   have bq:M (Calls prog 160 #[ge E.T,h0 1] wr λe D=>∃bv c,e=.returned (hZ bv 1 c)/\D.cell? ⟨bv,0,none⟩=some (h0 a)/\Tq E aC D st2 [] []/\Sco aC wr aC D):=by
    refine yai (AO ⟨_,_,_,_,_,ax,C⟩ 1 yac xac) ?_;rintro e Z ⟨v,rfl,av,bb,cp⟩;obtain⟨aA,c2,rfl⟩:=av.form xac;exact⟨_,_,rfl,av.cells.2 0 xac,bb,cp⟩
   have bY:=Q ai;have bC:=Q bu;clear ax C ai aV aw ar au bu a8;go_wp2_with (go_at_call 160;refine yai bq.o ?_;rintro e Z ⟨aA,c2,rfl,bK,bb,cp⟩;have aT:M _:=h1 bb cp;clear bb cp);go_ret;exact .inl ⟨_,a,_,bC.o,rfl,aT.o.1,bY.o.trans aT.o.2⟩
  |cons y S=>
   obtain⟨v,p,K,loc,a7⟩:=y;match gk,ar with
   |0,ar=>cases ar
   |q+1,ar=>
    obtain⟨g,cap,bE,aJ,cc,aW,bA,a5⟩:=C.top;subst bE;simp only at cc aW bA;obtain⟨ae,aM,H⟩:=C.l _ (List.mem_cons_self ..);simp only at ae aM H;obtain⟨aR,bd,rfl⟩:=ae.iface;obtain⟨mp,rfl⟩:=wC aM;have bN:S.length<=6000000:=by have:=aV.lenK.1;simp at this;omega
    have aL:=dE 0 0 wr (.cells #[.iface aR bd,.map mp,.bool a7] 232);have s:=ax.chg (aL.chg (S:=λ_=>False)) (λ_ _ q=>q.elim) (λ_ _=>rfl);have aq:=C.chg (aL.chg (S:=λ_=>False)) (λ_ _ q=>q.elim) (λ_ _=>rfl) (λb I=>C.rN b (yan aL.size I));have m:M (TqB E _ _ _ _ _ _ _ _/\TqT E _ _ _ _ _ _ _ _):=⟨s,aq⟩
    obtain⟨L,_,U⟩:=eo wr #[.iface aR bd,.map mp,.bool a7] 232 (ib).chg (S:=λ_=>False) (λc=>c);have bH:(wr.alloc _).cell? _=some (.iface aR _):=L 0;have n1:(wr.alloc _).cell? _=some (.map _):=L 1;have aI:(wr.alloc _).cell? _=some (.bool _):=L 2;have b2:=dZ aL aN bs;have bI:=aq.fz 4;have bG:=dZ aL aJ bA;have bJ:=AP aq.k (S.length*3+2);have bP:wr.heap.size≠E.T:=xaa;have bQ:wr.heap.size≠g:=xaa;have T:M _:=ai.trans (Sco.kept aL);have bc:M (Nd _ _ (.iface aR _) K/\PrM _ _ (.map _) loc/\ENk K):=aq.l _ (List.mem_cons_self ..);have bO:=aq.lt;have bR:=yaj aJ aL.size;have br:=Q aV;have bS:=Q aw;have aQ:=Q ar;clear ax C s aq L ai ae aM H aL aV aw ar;have bU:(0:Int)<=S.length:=xaa;have bB:(S.length:Int)<=S.length+1:=xaa;go_upto_region 5 with fail;change Code.wp _ _ _ _ (wr.alloc (.cells _ 232));clear bs a8 cc aW bA aN aJ;generalize (wr.alloc _)=ao at*;generalize wr.heap.size=bh at*;cases a7 with
    |true=>
     have ar:=aQ.o
     have ag:jw (q+1) st2 (⟨K,loc,true⟩::S.map (·.t)) f=if f.length<(d7 K).length then none else match jE st2 ⟨K,loc,true⟩ (S.map (·.t)) f with|.error q=>some (.error q)|.ok c=>jw q c.st c.ks c.xs:=by
      rw[jw,h3 rfl];rfl
     have i:=ag.symm.trans ar;by_cases ay:f.length<(d7 K).length
     ·rw[h3 ay]at i;cases i
     rw[h2 ay]at i;obtain⟨V,aB,af⟩:=Tq.pop m.o.1 m.o.2;have X:Chg (λb=>b=E.T) _ (ao.setCell ⟨_,4,_⟩ (hZ g S.length cap)):=dV _ _ _ _ rfl;have l:=m.o.2.rT;have aU:=m.o.2.r0;have bk:M _:=Nx (b:=true) (⟨_,_,_,_,_,V,aB⟩:Tq E _ _ _ S _) br.o (bc.o.1.chg X (λb k I=>by have k:=k;have z:=aU b I;rw[k]at z;omega)) (bc.o.2.1.chg X (λb k=>by have k:=k;rw[k,l];decide) (λ_ _=>rfl)) bc.o.2.2 (bS.o _ (List.mem_cons_self ..) rfl) xaa;have ab:M _:=T.o.trans af;have R:=Q i;have bi:M (∀c,jE _ ⟨_,_,_⟩ _ _=.ok c->CnG _ _ _/\EntI _ _):=λc o=>⟨sO br.o rfl (by show(d7 K).length<=_;omega) o,EntI.leave bS.o o⟩
     clear ar ag i ay V aB af X l aU m bc br bS aQ T;generalize jE _ _ _ _=bx at bk R bi;go_wp2_with (go_at_call 158;refine yai bk.o ?_;rintro e bn (⟨c,O,P,aD,rfl,B,A,ad⟩|⟨c,k,aD,rfl,bz⟩);rotate_left;exact h1 rfl (.inr ⟨c,k,yw (R.o.symm.trans (by rw[aD])),rfl,ab.o.bad bz⟩);have ba:M _:=h1 aD (h1 B (h1 A ad));clear aD B A ad);go_roundg q
     case measure=>omega
     case rel=>
      obtain⟨aD,B,A,ad⟩:=ba.o;have a0:=bi.o c aD;have u:=R.o;rw[aD]at u;simp only at u;rw[A,<-List.map_append]at a0 u;exact⟨_,_,_,_,B,ab.o.trans ad,a0.1,a0.2,u⟩
    |false=>
     have ar:=aQ.o
     have ag:jw (q+1) st2 (⟨K,loc,false⟩::S.map (·.t)) f=match kQ st2 ⟨K,loc,false⟩ (S.map (·.t)) f with|.error q=>some (.error q)|.ok c=>jw q c.st c.ks c.xs:=by
      rw[jw,h2 xac];rfl
     have i:=ag.symm.trans ar;obtain⟨V,aB,af⟩:=Tq.mark m.o.1 m.o.2;have ab:M _:=T.o.trans af;have aH:Tq E _ _ _ _ _:=⟨_,_,_,_,_,V,aB⟩
     have a6:M (∀c,kQ _ ⟨_,_,_⟩ _ _=.ok c->_):=λc o=>sN br.o rfl o;cases aS:jT st2 loc K with
     |some aX=>
      obtain⟨c0,bT⟩:=aX
      have aG:kQ st2 ⟨K,loc,false⟩ (S.map (·.t)) f=.error (c0,bT):=by
       unfold kQ;simp only[aS]
      rw[aG]at i;simp only at i
      have a9:(d7 K).length+S.length<=6000000:=by
       have z:=Bi (d7 K);have J:=vR K;have al:=br.o.w;have bw:=br.o.c;have bL:=vS (S.map (·.t));rw[List.length_map]at bL;have bf:wtS (⟨_,loc,false⟩::S.map (·.t))=szE K+wtS _:=rfl;have bD:f.length+(szE K+wtS (S.map (·.t)))<=10000*(st2.calls+1):=iv bf al
       omega
      have j:M _:=Gb aH (by simp only[yap];omega) xaa false;unfold EnR at j;rw[aS]at j;simp only at j;have aY:M _:=yw i.symm;clear ar ag i V aB af aH a6 aG m bc br bS aQ T a9 aS;go_wp2_with (go_at_call 159;refine yai j.o ?_;rintro e bn ⟨rfl,A⟩;exact h1 rfl (.inr ⟨_,_,aY.o,rfl,ab.o.bad A.chg⟩))
     |none=>
      have aG:kQ st2 ⟨K,loc,false⟩ (S.map (·.t)) f=.ok ⟨st2,(d7 K).map (λe=>⟨e,loc,false⟩)++⟨K,loc,true⟩::S.map (·.t),f⟩:=by
       unfold kQ;simp only[aS]
      have a0:=a6.o _ aG;have ay:=a0.lenK.1;simp only[yak,List.length_map,yap]at ay;rw[aG]at i;simp only at i;have j:M _:=Gb aH (by simp only[yap];omega) xaa false;unfold EnR at j;rw[aS]at j;simp only at j;have cb:M _:=EntI.enter bS.o aS;have R:=Q i;have aZ:=Q a0;clear ar ag i V aB af aH a6 aG m bc br bS aQ T aS a0 ay;go_wp2_with (go_at_call 159;refine yai j.o ?_;rintro e bn ⟨rfl,P,O,B,ad,i1⟩;have ba:M _:=h1 B (h1 ad i1);clear B ad i1);go_roundg q
      case measure=>omega
      case rel=>
       obtain⟨B,ad,i1⟩:=ba.o
       have bl:(d7 K).map (λe=>(⟨e,loc,false⟩:Tsk))++⟨K,loc,true⟩::S.map (·.t)=(O++⟨.iface aR bd,.map mp,⟨K,loc,true⟩⟩::S).map (·.t):=by
        rw[List.map_append,List.map_cons,i1]
       have a0:=aZ.o;have u:=R.o;have bo:=cb.o;rw[bl]at a0 u;rw[show(d7 _).map _=(d7 _).map _ from rfl,bl]at bo;exact⟨_,_,_,_,B,ab.o.trans ad,a0,bo,u⟩
end
section
open Go.RowKit Flt
open Go.ChangeMaps (setBlock)
attribute[local go_sem] dI dG dF gh gj gn mkF
variable{ab:List Bdg}{ρ:Nat->Nat}{st:LSt}{s:List UInt8}{aO:List TkV}{G:List Nat}
def StR(E:Tqe)(ρ:Nat->Nat)(w:World)(r:Rs LSt)(e:Ending)(w':World):Prop:=
 (∃st' ρ',r=.ok st'/\e=.returned (.tuple #[])/\Tq E ρ' w' st' [] []/\Sco ρ w ρ' w')\/(∃c p,r=.error (c,p)/\e=Thr c (p:Nat)/\Chg (λb=>ρ b≠0) w w')
theorem n6(h:d8 ab b.nm=none)(s):d8 (ab++[b]) s=if s=b.nm then some b else d8 ab s:=by
 unfold d8 at*;grind
theorem Gc{v:Nat}(h:d8 ab s=none):upF (mE ab) s (h0 v)=mE (ab++[.val s v]):=by
 funext s';unfold upF mE;rw[n6 h];by_cases c:s'=s
 ·rw[h3 c,h3 (show s'=(Bdg.val s v).nm from c)]
 rw[h2 c,h2 (show ¬s'=(Bdg.val s v).nm from c)]
theorem Tq.bind{E W}(h:Tq E ρ W st aO G){v:Nat}(V:d8 st.names s=none){o}(av:Mp (setBlock W E.V o) E.V (upF (mE st.names) s (h0 v))):Tq E ρ (setBlock W E.V o) {st with names:=st.names++[.val s v]} aO G/\Sco ρ W ρ (setBlock W E.V o):=by
 obtain⟨u1,u3,Y,bm,am,ax,C⟩:=h;have c:=nG C.v o;have al:=C.rV;obtain⟨bv,bz,aJ⟩:=C.f;have bb:∀b,b=E.V->¬b<E.N:=λb q I=>by have:=C.r0 b I;grind
 refine⟨⟨_,_,_,_,_,ax.chg c (λb _ q=>by grind) (λ_ _=>rfl),⟨C.toTcC.chg c (λq=>by have:=C.rT;grind),fH C.k c (λb e q=>by have:=C.rk b e;grind),fH C.x c (λb e q=>by have:=C.rx b e;grind),?_,⟨bv,bz.chg c (λq=>by have:=C.rF;grind),λs'=>?_⟩,λy aY=>⟨(C.l y aY).1.chg c bb,(C.l y aY).2.1.chg c (λb q=>by grind) (λ_ _=>rfl),(C.l y aY).2.2⟩,C.rT,C.rV,C.rF,C.rk,C.rx,C.r0,λb I=>C.rN b (yan c.size I),yan C.sz c.size⟩⟩,Sco.of c (λb _ q=>by grind) (λ_ _=>rfl)⟩
 ·grind[Gc]
 show FnA _ _ (d8 (st.names++[.val s v]) s') (bv s');rw[n6 V];by_cases d:s'=s
 ·rw[h3 (show s'=(Bdg.val s v).nm from d)];have:=aJ s';rw[d,V]at this;rw[d];exact this
 rw[h2 (show ¬s'=(Bdg.val s v).nm from d)];exact(aJ _).chg c bb
theorem Tq.mpV{E W}(h:Tq E ρ W st aO G):W.cell? ⟨E.T,1,none⟩=some (.map (some E.V))/\Mp W E.V (mE st.names):=by
 obtain⟨_,_,_,_,_,_,C⟩:=h;exact⟨C.t1,C.v⟩
theorem J3{E w}(h:Tq E ρ w st [] []){n}(ai:n.sym≠[]){F aP bM}(ae:Nd w (λb=>b<E.N) (.iface F aP) bM)(H:ENk bM)(aj:CnG st [mkT [] bM] []){q r}(ah:jw q st [mkT [] bM] []=some (qP r))(aq:∀aG a,r=.ok (aG,a)->aG.names=st.names):
  Calls prog 262 #[.agg #[h0 (cvT n).kind,dJ (cvT n).text,h0 ((cvT n).at_:Int),.iface F aP],ge E.T] w (StR E ρ w (match d8 st.names n.text with|some _=>.error (3,n.pos)|none=>mI n.text r)):=by
 have bB:M (ρ w.heap.size=0):=by
  obtain⟨_,_,_,_,_,_,C⟩:=h;exact C.rN _ yac
 have bc:M (∀W,Kept 0 0 w W->_):=λW k=>qp (h.keep k) ai;have bW:M (∀W,Kept 0 0 w W->_):=λW k=>zX (h.keep k) (ae.keep k) H aj ah;have cT:=Q aq
 have cd:M (∀W,Kept 0 0 w W->W.cell? ⟨E.T,1,none⟩=some (.map (some E.V))):=λW k=>by
  obtain⟨_,_,_,_,_,_,C⟩:=h.keep k
  exact C.t1
 have an:=jU ai;rw[an]at bc⊢;obtain⟨ts,ap,J⟩:=n;simp only at bc⊢;generalize eV J=i1 at*;unfold tkV at bc;simp only at bc;have aL:=dE 0 0 w (.cells #[h0 i1,dJ J,h0 ap,.iface F aP] 168);obtain⟨L,_,U⟩:=eo w #[h0 i1,dJ J,h0 ap,.iface F aP] 168 (ib).chg (S:=λ_=>False) (λc=>c)
 have aw:M (∀W,Sco ρ (w.alloc (.cells #[h0 i1,dJ J,h0 ap,.iface F aP] 168)) ρ W\/(∃ρ',Sco ρ (w.alloc (.cells #[h0 i1,dJ J,h0 ap,.iface F aP] 168)) ρ' W)->W.cell? ⟨w.heap.size,0,none⟩=some (h0 i1)/\W.cell? ⟨w.heap.size,1,none⟩=some (dJ J)/\W.cell? ⟨w.heap.size,2,none⟩=some (h0 ap)/\W.cell? ⟨w.heap.size,3,none⟩=some (.iface F aP)):=λW O=>by
  have c:=O.elim (λs=>s.chg) (λ⟨_,s⟩=>s.chg)
  have f:∀o v,(#[h0 i1,dJ J,h0 ap,.iface F aP]:Array Value)[o]? =some v->_:=λo v aD=>(c.cell (p:=⟨w.heap.size,o,none⟩) U (λq=>q bB.o)).trans ((L o).trans aD)
  exact⟨f 0 _ rfl,f 1 _ rfl,f 2 _ rfl,f 3 _ rfl⟩
 have ay:=Q aL;clear h ae H aj ah aq ai an L U aL;generalize bA:d8 st.names J=fb at bc⊢;have S:=Q bA;clear bA;cases fb with
 |some aQ=>
  go_enter func262,ntmps262;exact qbp
 |none=>
  go_enter func262,ntmps262;go_upto_region 2 with (go_at_call 261;refine yai (bc.o _ ay.o) ?_;rintro e Z ⟨ad,(⟨_,rfl⟩|⟨c,_⟩)⟩;rotate_left;exact absurd rfl c;have z:M _:=ay.o.trans ad;obtain⟨af,am,av,az⟩:=aw.o Z (.inl (Sco.kept ad));have D:=Q ad;clear ad);have ba:=cd.o _ z.o;go_region_with (go_at_call 156;refine yai (bW.o _ (z.o.trans (by first|exact ib|exact ib.drew))) ?_;rintro e aA (⟨A,bX,R,bU,rfl,bL,bE⟩|⟨c,q,bU,rfl,c5⟩);rotate_left;exact h1 rfl (.inr ⟨c,q,i0 bU,rfl,(Sco.kept (z.o.trans (by first|exact ib|exact ib.drew))).bad c5⟩);have aZ:M _:=(Sco.kept (z.o.trans (by first|exact ib|exact ib.drew))).trans bE;obtain⟨bK,a9,bj,bI⟩:=aw.o aA (.inr ⟨R,(Sco.kept (D.o.trans (by first|exact ib|exact ib.drew))).trans bE⟩);obtain⟨ag,cn⟩:=bL.mpV;obtain⟨t,bg,aE⟩:=sG (P:=prog) cn underlying98 underlying9 J (h0 bX);have aF:M _:=h1 bU (h1 bL aE);clear bU bL bE cn aE)
  all_goals
   have aT:d8 A.names J=none:=by rw[cT.o A bX aF.o.1];exact S.o
   obtain⟨aS,bO⟩:=Tq.bind aF.o.2.1 aT aF.o.2.2
   have cS:M _:=h1 aF.o.1 (h1 aS (aZ.o.trans bO))
   clear aS bO aT aF bg bK a9 bj bI ag
   go_wp2
   go_end0
   refine .inl ⟨_,R,?_,rfl,cS.o.2.1,cS.o.2.2⟩
   rw[cS.o.1]
   rfl
end
section
open Go.RowKit Flt
attribute[local go_sem] dI dG dF gh gj gn mkF
variable{w t:World}{ρ:Nat->Nat}{u u1 Y:Value}{aO:List TkV}{G:List Nat}
theorem BS.set2{P u3 vs base R}(h:BS w P u1 u3 vs c base R Y)(v):BS (w.setCell ⟨P,2,none⟩ v) P u1 v vs c base R Y where
 lt:=by simpa[go_sem] using h.lt
 free:=λo=>by rw[World.frozen?_setCell];exact h.free o
 c0:=by rw[fp xab];exact h.c0
 c1:=by rw[fp xab];exact h.c1
 c2:=by rw[World.cell?_setCell_same (h:=h.c2)]
 c3:=by rw[fp xab];exact h.c3
 own:=dP h.own (it h.row h.ne)
 row:=h.row
 ne:=h.ne
 sz:=by simpa[go_sem] using h.sz
theorem Tq.outs{E W aq}{st:LSt}{bm am}{a g n cap:Nat}
  (ax:TqB E ρ W st.ins st.vs st.outs u1 E.u3 Y) (C:TqT E ρ W st.names st.calls aO G bm am) (c:Chg (λb=>E.u3.ownBlock=some b) W aq) (aG:E.u3.ownBlock=some g\/g=W.heap.size) (aV:g<aq.heap.size)
  (V:n=(st.outs++[(a:Int)]).length) (aw:aq.ownsRow E.N 3 1 (hZ g n cap) n (kT (st.outs++[(a:Int)]))):
  ∃ρ',Tq {E with u3:=hZ g n cap} ρ' (aq.setCell ⟨E.P,2,none⟩ (hZ g n cap)) {st with outs:=st.outs++[(a:Int)]} aO G/\Sco ρ W ρ' (aq.setCell ⟨E.P,2,none⟩ (hZ g n cap)):=by
 have c2:=nR c E.P 2 (hZ g n cap);have f:∀b,(E.u3.ownBlock=some b\/b=E.P)->ρ b=1\/ρ b=7:=λb q=>q.elim (λq=>.inr (ax.ro b q)) (λq=>.inl (it q ax.rP))
 have cr:g≠E.P:=λe=>by
  obtain d|d:=aG
  ·have S:=ax.ro _ d;have:=ax.rP;grind
  ·have:=ax.b.lt;omega
 have aW:BS _ _ _ (hZ g n cap) _ _ _ _ _:=(ax.b.chg c (λq=>by have q:=q;have:=ax.ro _ q;have:=ax.rP;omega) (λb e q=>by have q:=q;have:=ax.ro _ q;have:=ax.rR _ e;omega)).set2 _;have b2:=fH ax.i c2 (λb e q=>by have:=ax.ri b e;grind)
 have h:(aq.setCell ⟨E.P,2,none⟩ (hZ g n cap)).ownsRow E.N 3 1 (hZ g n cap) (st.outs++[(a:Int)]).length (kT (st.outs++[(a:Int)])):=by
  exact xht
 have bY:(aq.setCell ⟨E.P,2,none⟩ (hZ g n cap)).heap.size=aq.heap.size:=by simp[go_sem]
 have j:∀ρ':Nat->Nat,(∀b,b<W.heap.size->ρ' b=ρ b)->(∀b,aq.heap.size<=b->ρ' b=0)->ρ' g=7->Tq {E with u3:=.slice _ n _} _ _ {st with outs:=st.outs++[(a:Int)]} aO _/\Sco _ W _ _:=λρ' e i F=>by
  have k:∀b,(hZ g n cap).ownBlock=some b->ρ' b=7:=λb q=>by
   grind[Value.ownBlock]
  have l:=C.chg c2 (λb _ q=>by grind) e (λb I=>i b xaa)
  exact⟨⟨_,_,_,_,_,⟨aW,b2,h,(e _ ax.b.lt).trans ax.rP,λb q=>(e b (dO ax.b.own q).2).trans (ax.rR b q),λb q=>(e b (dO ax.i q).2).trans (ax.ri b q),k,ax.e1,rfl⟩,⟨⟨l.lt,l.fz,l.t0,l.t1,l.t2,l.t3,l.t4,l.t5⟩,l.k,l.x,l.v,l.f,l.l,l.rT,l.rV,l.rF,l.rk,l.rx,l.r0,l.rN,l.sz⟩⟩,Sco.of c2 (λb _ q=>by grind) e⟩
 obtain d|d:=aG
 ·exact⟨_,j _ (λ_ _=>rfl) (λb I=>C.rN b (yan c.size I)) (ax.ro g d)⟩
 exact xdw
def Esm(E E':Tqe):Prop:=E'.P=E.P/\E'.T=E.T/\E'.V=E.V/\E'.F=E.F/\E'.N=E.N
def StX(E:Tqe)(ρ:Nat->Nat)(w:World)(r:Rs LSt)(e:Ending)(w':World):Prop:=
 (∃st' ρ' E',Esm E E'/\r=.ok st'/\e=.returned (.tuple #[])/\Tq E' ρ' w' st' [] []/\Sco ρ w ρ' w')\/(∃c p,r=.error (c,p)/\e=Thr c (p:Nat)/\Chg (λb=>ρ b≠0) w w')
theorem StR.e{E r e D}(h:StR E ρ w r e D):StX E ρ w r e D:=by
 obtain⟨aG,ρ',z,J,al,bw⟩|h:=h
 ·exact .inl ⟨_,_,E,⟨rfl,rfl,rfl,rfl,rfl⟩,z,J,al,bw⟩
 exact .inr h
theorem Tq.open'{E W st}(h:Tq E ρ W st aO G):∃Y bm am,TqB E ρ W st.ins st.vs st.outs E.u1 E.u3 Y/\TqT E ρ W st.names st.calls aO G bm am:=by
 obtain⟨u1,u3,Y,bm,am,ax,C⟩:=h;have K:=ax.e1;have ag:=ax.e3;grind
theorem Bj{W:World}{v l}(aj:W.cell? ⟨b,o,none⟩=some v)(ab:b<W.heap.size)(V:u.ownBlock≠some b)(aG:(W.alloc l).grownBy t u.ownBlock):t.cell? ⟨b,o,none⟩=some v:=
 ((eD aG).cell (p:=⟨b,o,none⟩) (yaj ab (dE 0 0 W l).size) (λq=>V q)).trans (dZ (dE 0 0 W l) ab aj)
theorem K6{W:World}{l}(aj:W.frozen? ⟨b,o,none⟩=false)(ab:b<W.heap.size)(V:u.ownBlock≠some b)(aG:(W.alloc l).grownBy t u.ownBlock):t.frozen? ⟨b,o,none⟩=false:=
 ((eD aG).frozen (p:=⟨b,o,none⟩) (yaj ab (dE 0 0 W l).size) (λq=>V q)).trans (((dE 0 0 W l).frozen (p:=⟨b,o,none⟩) ab xaa).trans aj)
