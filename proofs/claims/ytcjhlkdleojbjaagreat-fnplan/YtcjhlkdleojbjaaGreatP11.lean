import Derived.Test.YtcjhlkdleojbjaaGreatP10
namespace Go.Proofs.Z
open Tryz Go.RowKit Flt
set_option maxRecDepth 1000000
set_option maxHeartbeats 0
section
attribute[local go_sem] eF eE eD
variable{w B:World}{ts:List Tok}{ss:List (List UInt8)}
def RlT(w:World)(ss:List (List UInt8))(e:Ending)(w':World):Prop:=(ss=[]/\e=.returned (.slice none 0 0)/\w'=w)\/(ss≠[]/\e=.returned (.slice (some ⟨w.heap.size,0,none⟩) ss.length ss.length)/\w'=w.alloc (.cells (ss.map λl=>eN l).toArray 9))
theorem Ps(l h):(((⟨l.toArray⟩:ByteArray)[0]'h).toNat:Int)=bt l 0:=by
 cases l with
 |nil=>simp[ByteArray.size]at h
 |cons a r=>rfl
theorem Gx(l w):Calls prog 117 #[eN l] w λe B=>e=.returned (.bool (ju l))/\B=w:=by
 have au:=fX l;have bN:=Ps l;unfold ju;generalize bt l 0=x at bN⊢;cases aX:decide (1<l.length)
 ·have t:¬((1:Int)<l.length):=by simp at aX;omega
  go_enter func117,ntmps117;go_wp2;go_ret;exact⟨rfl,rfl⟩
 have al:1<l.length:=by simpa using aX
 have F:0<l.length:=xaa;have t:(1:Int)<l.length:=xaa;cases bb:decide (65<=x)<;>(go_enter func117,ntmps117;go_wp2;go_ret;exact⟨rfl,rfl⟩)
theorem J7(s w):Calls prog 132 #[eN s] w (RlT w (kH s)):=by
 by_cases h:s∈UL
 ·simp only[UL,List.mem_cons,List.not_mem_nil,or_false]at h;rcases h with rfl|rfl|rfl|rfl|rfl|rfl|rfl|rfl|rfl|rfl|rfl|rfl|rfl|rfl<;>(go_enter func132,ntmps132;go_wp2;go_ret;exact .inr ⟨by decide,rfl,rfl⟩)
 rw[wV h];simp only[UL,List.mem_cons,List.not_mem_nil,or_false,not_or,<-beq_eq_false_iff_ne]at h;obtain⟨_,_,_,_,_,_,_,_,_,_,_,_,_,_⟩:=h;go_enter func132,ntmps132;go_wp2;go_ret;exact .inr ⟨by decide,rfl,rfl⟩
theorem NA(p s w):Calls prog 118 #[eN p,eN s] w (RlT w (gq p s)):=by
 by_cases h:p∈PQ
 ·have Y:=@Gh p s h;simp only[PQ,List.mem_cons,List.not_mem_nil,or_false]at h;by_cases au:s∈RL
  ·clear Y;simp only[RL,List.mem_cons,List.not_mem_nil,or_false]at au;rcases h with rfl|rfl|rfl|rfl|rfl|rfl|rfl|rfl|rfl|rfl<;>rcases au with rfl|rfl|rfl|rfl|rfl|rfl|rfl|rfl|rfl|rfl|rfl|rfl|rfl<;>(go_enter func118,ntmps118;go_wp2;go_ret;first|exact .inl ⟨rfl,rfl,rfl⟩|exact .inr ⟨by decide,rfl,rfl⟩)
  rw[Y au];clear Y;simp only[RL,List.mem_cons,List.not_mem_nil,or_false,not_or,<-beq_eq_false_iff_ne]at au;obtain⟨_,_,_,_,_,_,_,_,_,_,_,_,_⟩:=au;rcases h with rfl|rfl|rfl|rfl|rfl|rfl|rfl|rfl|rfl|rfl<;>(go_enter func118,ntmps118;go_wp2;go_ret;first|exact .inl ⟨rfl,rfl,rfl⟩|exact .inr ⟨by decide,rfl,rfl⟩)
 rw[Gg s h];simp only[PQ,List.mem_cons,List.not_mem_nil,or_false,not_or,<-beq_eq_false_iff_ne,iq,kR,gH,gL,fO,jT,fK,qk,nj,gX]at h;obtain⟨_,_,_,_,_,_,_,_,_,_⟩:=h;have bm:E _:=J7 s w;generalize kH s=us at bm;go_enter func118,ntmps118;go_wp2_with fail;go_at_call 132
 refine yaj bm.o ?_;rintro e aA (⟨rfl,rfl,rfl⟩|⟨F,rfl,rfl⟩)
 ·go_wp2;go_ret;exact .inl ⟨rfl,rfl,rfl⟩
 have aU:E (us≠[]):=F;clear F;go_wp2;go_ret;exact .inr ⟨aU.o,rfl,rfl⟩
theorem WB.pop{W J a n cap x}(h:WB W J (.slice a n cap) (ss++[x])):WB W J (.slice a ss.length cap) ss:=by
 unfold WB at*;have af:(ss++[x]).length=ss.length+1:=by simp
 rw[af]at h;refine⟨by simp,?_⟩;rcases h.2 with⟨_,c⟩|⟨g,c,av,e,R,aS,aa,bi,b7,ba⟩
 ·omega
 cases e;refine .inr ⟨g,_,_,rfl,R,aS,by omega,bi,b7,?_⟩;have:av.toList.take (ss.length*1)=(av.toList.take ((ss.length+1)*1)).take ss.length:=by grind
 simp_all
theorem NB(st):st.length<=wts st:=by
 induction st<;>grind[AX,wts]
theorem Pt(s):wt s<=7:=by
 grind[wt]
theorem ND(st):wts st<=7*st.length:=by
 induction st<;>grind[wts,Pt]
theorem Pu(st):mu st<=7*st.length+1:=by
 grind[ND,mu]
theorem tH{s st}(h:AW st=false):gZ s st=st:=by
 cases st with
 |nil=>exact m4 s
 |cons p r=>exact lP h
theorem tI(s):gq ll s=kH s:=rfl
theorem vl(s):gq jT s=[ll,fK]:=rfl
theorem vm(s):gq gL s=[jT,fO]:=rfl
theorem wZ(s r):gZ s (ll::r)=kH s++r:=by
 rw[iO xab,tI,tH (vf s r)]
theorem rN(s r):gZ s (jT::r)=kH s++fK::r:=by
 rw[iO xab,vl];exact wZ s _
theorem rO(s r):gZ s (gL::r)=kH s++fK::fO::r:=by
 rw[iO xab,vm];exact rN s _
theorem pF(s st):(gZ s st).length<=st.length+10:=by
 match st with
 |[]=>rw[m4];simp
 |p::r=>
  cases h:ju p
  ·rw[lP h];omega
  have aB:=(vg s).2;rcases tv p s r with c|c|⟨e,c⟩|⟨e,c⟩|⟨e,c⟩
  ·rw[iO h,c,List.nil_append];have:=pF s r;rw[yaq];omega
  ·rw[iO h,tH c,yal,yaq];have:=yW p s;omega
  ·rw[e,rO,yal];simp only[yaq];omega
  ·rw[e,rN,yal];simp only[yaq];omega
  rw[iO h,c];show(gZ s (gL::gX::r)).length<=_;rw[rO,yal];simp only[yaq];omega
termination_by st.length
theorem NF(w:World)(l):WC (w.alloc (.cells #[eN l] 9)) ⟨w.heap.size,0,none⟩ [l]:=by
 intro j x e;grind[jG,yav]
theorem WB.form{W J v}(f:WB W J v ss):∃a cap,v=.slice a ss.length cap:=by
 rcases f.2 with⟨e,c⟩|⟨g,cap,av,e,_⟩<;>grind
theorem RlT.uni{e}(h:RlT w ss e B):∃bO ar m,e=.returned (.slice bO m m)/\ss.length=m/\(0<m->bO=some ⟨ar,0,none⟩)/\ar=w.heap.size/\(0<m->ar<B.heap.size)/\(∀q,q<m->B.cell? ⟨ar,q,none⟩=some (eN (ss.getD q [])))/\Kept 0 0 w B:=by
 rcases h with⟨rfl,rfl,rfl⟩|⟨_,rfl,rfl⟩
 ·grind[Kept.refl]
 refine⟨_,_,_,rfl,rfl,λ_=>rfl,rfl,λ_=>by simp,λq ap=>?_,ez 0 0 w _⟩;simp_all
theorem Gy(w J v st s)(f:WB w J v st.reverse)(aT:J<=w.heap.size)(ad:st.length<=60000):
  Calls prog 98 #[v,eN s] w λe B=>∃v',e=.returned v'/\WB B J v' (gZ s st).reverse/\Chg (λb=>J<=b) w B:=by
 have HF:E _:=f;have aq:E _:=λp W=>NA p s W;have bL:E _:=Gx;have av:E _:=aT;have HM:E (mu st<=420001):=by have:=Pu st;show _<=_;omega
 obtain⟨Eaa,au⟩:∃Eaa,Eaa=gZ s st:=⟨_,rfl⟩
 rw[<-au];have HE:E _:=au.symm;clear f aT au;go_enter func98,ntmps98;go_wp2_with fail;go_loopg [0] (mu st) (λm u W=>∃R,mu R=m/\E (m<=420001)/\R.length<=420010/\E (WB W J u R.reverse)/\E (Chg (λb=>J<=b) w W)/\E (gZ s R=Eaa))
 case atStart=>exact⟨_,rfl,HM,by omega,HF,(Kept.refl 0 0 w).chg,HE⟩
 case round=>
  obtain⟨R,(C:E _),am,af,K,bu,aW⟩:=hrel;cases R with
  |nil=>
   obtain⟨a,cap,rfl⟩:=WB.form K.o;have H:E _:=(m4 s).symm.trans aW.o;rw[show(([]:List _).reverse).length=0 from rfl];go_wp2_with fail;go_ret;exact⟨_,rfl,hM H.o K.o,bu.o⟩
  |cons p r=>
   obtain⟨g,cap,aB,ai,b8,ah,Z⟩:=WB.at_ K.o xac;have ca:((p::r).reverse).length=r.length+1:=by simp
   rw[ca]at aB Z;subst aB
   have c1:wr.cell? ⟨g,r.length,none⟩=some (eN p):=by
    have:=ah r.length p xac;rwa [jG,Nat.zero_add]at this
   have n:E _:=bL.o p wr;have b1:r.length+1<=420010:=by simpa using af
   clear ah ca af;cases aM:ju p
   ·have H:E _:=(lP aM).symm.trans aW.o;rw[aM]at n;clear aM;go_wp2_with (go_at_call 117;refine yaj n.o ?_;rintro e aA ⟨rfl,X⟩;obtain rfl:=X.symm);go_ret;exact⟨_,rfl,hM H.o K.o,bu.o⟩
   have H:E _:=(iO aM).symm.trans aW.o;have G:E (mu (gq p s++r)<gk):=by rw[<-C.o];exact B8 p s r aM
   have z:E (r.length+(gq p s).length<=420010):=by
    have F:mu (p::r)=wt p+wts r+1:=by unfold mu AW;rw[hD aM];rfl
    have N:=NB r;have h3:=yW p s;have a6:=C.o;have bF:=am.o;have bp:=AX p;show _<=_;omega
   rw[aM]at n;have I:E _:=aq.o p wr;generalize gq p s=l at G z I H
   have y:E (WB wr J (hz g r.length cap) r.reverse):=by
    have h:=WB.pop (by have:=K.o;rw[List.reverse_cons]at this;exact this);rw[List.length_reverse]at h;exact h
   clear aM K aW C
   go_upto_region 3 with (first
    |(go_at_call 117;refine yaj n.o ?_;rintro e aA ⟨rfl,X⟩;obtain rfl:=X.symm)
    |(go_at_call 118;refine yaj I.o ?_;intro e ag aZ;obtain⟨bO,ar,m,rfl,P,Q,ay,S,aa,ak⟩:=RlT.uni aZ))
   have ao:E _:=WB.keep y.o ak;have bW:E _:=Chg.andThen bu.o ak.chg;have O:E ((0<m->ar<ag.heap.size)/\∀q,q<m->ag.cell? _=some _):=⟨S,aa⟩
   have Y:E _:=P;have aC:g≠ar:=xaa;have bX:=ak.size;have an:E (J<=ag.heap.size):=by show _<=_;omega
   have aj:E _:=Q;rw[Y.o]at z;have az:=z.o;clear aZ P Q ay S aa ak c1 bu y n I;go_upto_region 5 with fail;go_loopw [0,6] (λu cp W=>∃j:Nat,j<=m/\cp=hA ((j:Int)-1)/\E (WB W J u (l.drop j++r).reverse)/\E (Chg (λb=>J<=b) w W)/\E ((0<m->ar<W.heap.size)/\(∀q,q<m->W.cell? ⟨ar,q,none⟩=some (eN (l.getD q [])))/\(∀h,u.ownBlock=some h->h≠ar)/\J<=W.heap.size)) (λ_ cp _=>(intOf cp+1).toNat)
   case atStart=>
    refine⟨m,yad,rfl,?_,bW,⟨O.o.1,O.o.2,λh cj=>?_,an.o⟩⟩
    ·rw[List.drop_eq_nil_of_le (by rw[Y.o];exact yad),List.nil_append];exact ao
    simp[Value.ownBlock]at cj;omega
   case round=>
    obtain⟨j,hj,rfl,K,bu,a2⟩:=hrel;obtain⟨a,ce,o⟩:=WB.form K.o;subst o;by_cases aI:j=0
    ·subst aI;rw[List.drop_zero]at K;go_wp2_with fail;go_roundg (mu (l++r))
     case measure=>exact G.o
     case rel=>exact⟨_,rfl,(by show _<=_;have:=G.o;have:=am.o;omega),by rw[yal,Y.o];omega,K,bu,H⟩
    obtain⟨q,rfl⟩:∃q,j=q+1:=⟨j-1,by omega⟩
    have ap:q<m:=xaa;obtain rfl:=aj.o xaa;have c2:=a2.o.2.1 q ap
    have HD:E (l.drop q=l.getD q []::l.drop (q+1)):=by
     show _=_;rw[List.drop_eq_getElem_cons (hL Y.o ap),yai,yam (hL Y.o ap)];rfl
    have ca:(l.drop (q+1)++r).reverse.length<=420010:=by
     rw[List.length_reverse,yal,List.length_drop,Y.o];omega
    have cd:E _:=ca;generalize l.getD q _=x at c2 HD;generalize ae:(l.drop _++r).reverse=xs at K ca cd a2;have ax:E _:=ae;generalize bC:xs.length=nn at*;have a7:E _:=bC;clear ae bC;go_wp2_with (first|(at_builtin;refine tG _ rfl _ _ rfl J _ _ rfl (WB.keep K.o (ez 0 0 _ _)) _ 1 1 _ rfl rfl (NF _ x) xab ?c2 ?c3 ?_)|fail)
    case c2=>have:=cd.o;have:=a7.o;omega
    case c3=>have:=a2.o.2.2.2;simp;omega
    intro g9 cap9 n9 bj aw bM aN b6;have bh:=ez 0 0 wr (.cells #[eN x] 9)
    have R1:E (WB bj J (hz g9 n9 cap9) (l.drop q++r).reverse):=by
     show WB _ _ _ _;rw[HD.o,List.cons_append,List.reverse_cons,ax.o];exact bM
    have a9:∀b,(Value.slice a _ _).ownBlock=some b->_:=λb hb=>(WB.blk K.o hb).1;have R2:E _:=Chg.andThen (Chg.andThen bu.o bh.chg) ⟨aN.os,aN.tape,aN.output,aN.size,λi hi ad=>aN.block i hi (λc=>ad (a9 i c))⟩
    have R3:E ((0<m->ar<bj.heap.size)/\(∀q,q<m->bj.cell? ⟨ar,q,none⟩=some (eN (l.getD q [])))/\(∀h,(hz g9 n9 cap9).ownBlock=some h->h≠ar)/\J<=bj.heap.size):=by
     obtain⟨a1,U,a3,a4⟩:=a2.o;have al:=a1 xaa;have cI:=aN.size;have ch:(wr.alloc (.cells #[eN x] 9)).heap.size=wr.heap.size+1:=by simp
     refine⟨λ_=>by omega,λq ap=>?_,λh cj=>?_,by omega⟩
     ·rw[aN.cell (by show ar<_;omega) (λc=>a3 _ c rfl),bh.cell al xaa];exact U q ap
     simp[Value.ownBlock]at cj;subst cj;rcases b6 with c|c
     ·exact a3 _ c
     omega
    clear bM aN b6 bh a9 aw;go_wp2_with fail;go_roundw
    case rel=>exact⟨q,by omega,by go_num,R1,R2,R3⟩
    case measure=>simp[intOf]
theorem TkA.keep{g off n}(h:TkA w g off n ts)(k:Kept 0 0 w B):TkA B g off n ts:=
 ⟨h.len,yak h.lt k.size,λj hj=>(k.cell (p:=⟨g,off+j*3,none⟩) h.lt xaa).trans (h.c0 j hj),λj hj=>(k.cell (p:=⟨g,off+j*3+1,none⟩) h.lt xaa).trans (h.c1 j hj),λj hj=>(k.cell (p:=⟨g,off+j*3+2,none⟩) h.lt xaa).trans (h.c2 j hj)⟩
theorem WB.lit1(w:World)(l):WB (w.alloc (.cells #[eN l] 9)) w.heap.size (hz w.heap.size 1 1) [l]:=
 World.ownsRow_lit (base:=w.heap.size) (e:=9) (size:=1) w #[eN l] 1 yad (by unfold maxLen;omega) rfl
theorem Gz{k}(h:k<ts.length):ts.drop k=ts.getD k hG::ts.drop (k+1):=by
 simp_all
theorem vn{W I}(k:Kept 0 0 w W)(c:Chg (λb=>w.heap.size<=b) W I):Kept 0 0 w I:=Chg.kept k c (λ_ h=>h)
theorem xd(w bM)(m cap n:Nat)(ts)(af:ts.length=m)(am:m<=5000)(bd:0<m->∃g off,bM=some ⟨g,off,none⟩/\TkA w g off m ts):
  Calls prog 74 #[.slice bM m cap,hA n] w λe B=>e=.returned (hA (fA n ts [iq]))/\Kept 0 0 w B:=by
 have ao:E _:=Gy;have aV:E _:=bd;have HL:E _:=af;have bE:E (WB _ _ _ [iq].reverse):=WB.lit1 w _;obtain⟨Eaa,au⟩:∃Eaa,Eaa=fA n ts [iq]:=⟨_,rfl⟩
 rw[<-au];have HE:E (fA n (ts.drop 0) _=Eaa):=au.symm;clear au bd af;go_enter func74,ntmps74;go_wp2_with fail;change Code.wp _ _ _ _ (w.alloc (.cells #[eN iq] 9));have bX:E _:=ez 0 0 w (.cells #[eN iq] 9);generalize w.alloc _=aA at bE bX⊢;go_loopw [5,6] (λv S W=>∃(k:Nat) (st:List (List UInt8)),k<=m/\S=hA k/\st.length<=1+10*k/\E (WB W w.heap.size v st.reverse)/\E (Kept 0 0 w W)/\E (fA n (ts.drop k) st=Eaa)) (λ_ S _=>m-(intOf S).toNat)
 case atStart=>grind
 case round=>
  obtain⟨k,st,O,rfl,cA,K,aI,au⟩:=hrel;by_cases aG:k<m
  ·obtain⟨g,off,rfl,a2⟩:=aV.o xaa;have c0:=(a2.keep aI.o).c0 k aG;have j:E _:=a2;have l:=au.o;rw[Gz (hL HL.o aG)]at l;have br:E _:=ao.o _ _ _ _ (ts.getD k hG).sym K.o aI.o.size xaa;have bZ:E (∀W,Kept 0 0 w W->W.cell? _=some _/\W.cell? _=some _):=λW aj=>⟨(a2.keep aj).c0 k aG,(a2.keep aj).c1 k aG⟩
   generalize ts.getD k _=C at c0 l br bZ;have al:E _:=l;obtain⟨a,ce,o⟩:=WB.form K.o;generalize st.reverse.length=nn at o;have av:=pF C.sym st;generalize bx:gZ _ _=i at br av;have b2:E _:=bx;clear bx l a2 au j;subst o;go_upto_region 6 with (go_at_call 98;refine yaj br.o ?_;rintro e ag ⟨a7,rfl,ax,f⟩);have bI:E _:=ax;have bB:E _:=vn aI.o f;obtain⟨c1,c2⟩:=bZ.o _ bB.o;clear ax f c0 br K aI;cases i with
   |nil=>
    obtain⟨U,q,a9⟩:=WB.form bI.o;rw[show(([]:List _).reverse).length=0 from rfl]at a9;subst a9
    have H:E (C.pos=Eaa):=by
     have h:=al.o;rw[fA,b2.o]at h;exact h
    go_quiet (fail)
    have aK:E _:=Kept.trans bB.o (eJ 0 0 _ nq);obtain⟨aH,bf⟩:=bZ.o _ aK.o;generalize ag.drewN _=aF at aK aH bf⊢;clear c1 c2;go_wp2_with fail;go_ret;exact⟨congrArg (λz=>Ending.returned (.int _ z)) H.o,aK.o⟩
   |cons p r=>
    obtain⟨aN,q,a9,ai,b8,ah,Z⟩:=WB.at_ bI.o xac;have ca:((p::r).reverse).length=r.length+1:=by simp
    rw[ca]at a9 Z;subst a9
    have c3:ag.cell? ⟨aN,r.length,none⟩=some (eN p):=by
     have:=ah r.length p xac;rwa [jG,Nat.zero_add]at this
    have I:r.length+1<=100000:=by simp at av;omega
    have s:r.length<=10*k+10:=by simp at av;omega
    have bD:((r.length:Int)+1==0)=false:=by simp;omega
    have aQ:IntKind.i64.wrap ((r.length:Nat)+1-1)=(r.length:Nat):=by rw[IntKind.wrap_i64];omega
    have a8:(0:Int)<=(r.length:Nat):=xaa;have bi:(r.length:Int)<(r.length:Nat)+1:=xaa;cases ap:(p==C.sym)
    ·have bL:p≠C.sym:=λc=>by rw[c]at ap;simp at ap
     have H:E (C.pos=Eaa):=by
      have h:=al.o;rw[fA,b2.o]at h;simp only[hC bL]at h;exact h
     have aR:(p !=C.sym)=true:=by unfold bne;rw[ap];rfl
     clear ah ca av bL;go_quiet (fail)
     have aK:E _:=Kept.trans bB.o (eJ 0 0 _ nq);obtain⟨aH,bf⟩:=bZ.o _ aK.o;generalize ag.drewN _=aF at aK aH bf⊢;clear c1 c2 c3;go_wp2_with fail;go_ret;exact⟨congrArg (λz=>Ending.returned (.int _ z)) H.o,aK.o⟩
    have aZ:p=C.sym:=by simpa using ap
    have H:E (fA n (ts.drop (k+1)) r=Eaa):=by
     have h:=al.o;rw[fA,b2.o]at h;simp only[hD aZ]at h;exact h
    have y:E (WB ag w.heap.size (hz aN r.length q) r.reverse):=by
     have h:=WB.pop (by have:=bI.o;rw[List.reverse_cons]at this;exact this);rw[List.length_reverse]at h;exact h
    have aR:(p !=C.sym)=false:=by unfold bne;rw[ap];rfl
    clear ah ca av aZ bI;go_quiet (fail)
    have aK:E _:=Kept.trans bB.o (eJ 0 0 _ nq);have aD:E _:=WB.keep y.o (eJ 0 0 _ nq);generalize ag.drewN _=aF at aK aD⊢;clear c1 c2 c3;go_wp2_with fail;go_roundw;exact⟨k+1,r,by omega,by go_num,by omega,aD,aK,H⟩;simp[intOf];omega
  obtain rfl:k=m:=xaa;have l:=au.o;rw[List.drop_eq_nil_of_le (by rw[HL.o];exact yad),fA]at l;have br:E _:=ao.o _ _ _ _ JY K.o aI.o.size xaa;have al:E _:=l;obtain⟨a,ce,o⟩:=WB.form K.o;generalize st.reverse.length=nn at o;have av:=pF JY st;generalize gZ _ _=i at br av al;clear l au;subst o;go_upto_region 10 with (go_at_call 98;refine yaj br.o ?_;rintro e ag ⟨a7,rfl,ax,f⟩);have bI:E _:=ax;have bB:E _:=vn aI.o f;clear ax f br K aI;obtain⟨U,q,a9⟩:=WB.form bI.o;cases i with
  |nil=>
   rw[show(([]:List _).reverse).length=0 from rfl]at a9;subst a9;have H:E ((-1:Int)=Eaa):=by have h:=al.o;rw[hD rfl]at h;exact h
   go_wp2_with fail;go_ret;exact⟨congrArg (λz=>Ending.returned (.int _ z)) H.o,bB.o⟩
  |cons p r=>
   rw[show((p::r).reverse).length=r.length+1 by simp]at a9;subst a9;have H:E (n=Eaa):=by have h:=al.o;rw[hC xac]at h;exact h
   have I:r.length+1<=100000:=by simp at av;omega
   have bi:(0:Int)<(r.length:Nat)+1:=xaa;clear av;go_wp2_with fail;go_ret;exact⟨congrArg (λz=>Ending.returned (.int _ z)) H.o,bB.o⟩
end
section
variable{n k:Nat}{ts:List Tok}
def hdS:List Tok->List UInt8
 |[]=>JY
 |t::_=>t.sym
theorem iF{n p r}(h:ju p=true):∀ts:List Tok,fA n ts (p::r)=fA n ts (gq p (hdS ts)++r)
 |[]=>by rw[fA,fA,iO h];rfl
 |t::ts=>by rw[fA,fA,iO h];rfl
theorem eP{n s r}(h:ju s=false):∀{ts:List Tok},fA n ts (s::r)=-1->∃t us,ts=t::us/\t.sym=s/\fA n us r=-1
 |[],X=>by
  grind[fA,lP]
 |t::us,X=>by
  grind[fA,lP]
def DE(n:Nat)(p:List UInt8)(l:Nat)(ts:List Tok):Prop:=∀r,fA n ts (p::r)=-1->∃e us ws,ts=us++ws/\Pr l [e] us/\fA n ws r=-1
def TkM(n:Nat)(p:List UInt8)(l:Nat)(ts:List Tok):Prop:=∀r a ls,Pr l [a] ls->fA n ts (p::r)=-1->∃e us ws,ts=us++ws/\Pr l [e] (ls++us)/\fA n ws r=-1
def Pv(n:Nat)(ts:List Tok):Prop:=∀r es ls,Pr 3 es ls->fA n ts (gX::r)=-1->∃es' us ws,ts=us++ws/\Pr 3 es' (ls++us)/\fA n ws r=-1
structure Gr(n k:Nat):Prop where
 u:∀ts,ts.length<k->DE n ll 0 ts
 mu:∀ts,ts.length<k->TkM n fK 1 ts
 t:∀ts,ts.length<k->DE n jT 1 ts
 mt:∀ts,ts.length<k->TkM n fO 2 ts
 e:∀ts,ts.length<k->DE n gL 2 ts
 ma:∀ts,ts.length<k->Pv n ts
theorem MQ(g:Gr n k)(ts)(O:ts.length<k+1):TkM n fK 1 ts:=by
 intro r a Q af X;rw[iF xab]at X;by_cases c:hdS ts=[42]\/hdS ts=[47]
 ·have a5:gq fK (hdS ts)=[hdS ts,ll,fK]:=by
   rcases c with c|c<;>rw[c]<;>rfl
  rw[a5]at X;obtain⟨o,us,rfl,ho,X⟩:=eP (by rcases c with c|c<;>rw[c]<;>decide) X;rw[<-ho]at c;obtain⟨b,f,v,rfl,N,X⟩:=g.u us (by simp at O;omega) _ X;obtain⟨e,p,j,rfl,h3,X⟩:=g.mu v (by simp at O;omega) r (.bin o a b) (Q++o::f) (.mul af c N) X;exact⟨e,o::(f++p),j,by simp,by simpa using h3,X⟩
 have a5:gq fK (hdS ts)=[]:=by
  unfold gq;rw[hC xab,hC xab,hC xab,hC xab,hC xab,hC xab,hD rfl,hC c]
 rw[a5]at X;exact⟨a,[],ts,rfl,by simpa using af,X⟩
theorem tJ(g:Gr n k)(O:ts.length<k+1){x H}(X:fA n ts (x::[40]::gL::H)=-1)(an:ju x=false):∃y l e us v,ts=y::l::(us++v)/\y.sym=x/\l.sym=[40]/\Pr 2 [e] us/\fA n v H=-1/\v.length<k:=by
 obtain⟨y,us,rfl,u,X⟩:=eP an X;obtain⟨l,us,rfl,af,X⟩:=eP xab X;obtain⟨e,f,v,rfl,N,X⟩:=g.e _ (by grind) _ X;grind
theorem Pw(g:Gr n k)(ts)(O:ts.length<k+1):DE n ll 0 ts:=by
 intro r X;rw[iF xab,tI]at X;generalize hdS _=s at X;by_cases h:s∈UL
 ·simp only[UL,List.mem_cons,List.not_mem_nil,or_false]at h;rcases h with rfl|rfl|rfl|rfl|rfl|rfl|rfl|rfl|rfl|rfl|rfl|rfl|rfl|rfl
  ·obtain⟨o,us,rfl,ho,X⟩:=eP xab X;obtain⟨e,f,v,rfl,N,X⟩:=g.u _ (by grind) _ X;exact⟨_,_,_,rfl,.neg ho N,X⟩
  ·obtain⟨t,us,rfl,ht,X⟩:=eP xab X;have X:fA n _ (qk::r)=-1:=X;rw[iF xab]at X;by_cases c:hdS us=[40]
   ·rw[c]at X;obtain⟨l,f,rfl,af,X⟩:=eP xab X;have X:fA n _ (nj::[41]::r)=-1:=X;rw[iF xab]at X;by_cases c2:hdS f=[41]
    ·rw[c2]at X;obtain⟨u,p,rfl,aD,X⟩:=eP xab X;exact⟨_,_,_,rfl,.call0 ht af aD,X⟩
    rw[show gq nj _=[gL,gX] by simp[gq,c2,iq,kR,gH,gL,fO,jT,fK,qk,nj]]at X;obtain⟨e,p,v,rfl,N,X⟩:=g.e _ (by grind) _ X;obtain⟨es,gR,j,rfl,h3,X⟩:=g.ma _ (by grind) _ _ _ (.arg1 N) X;obtain⟨u,G,rfl,aD,X⟩:=eP xab X;exact⟨_,_,_,by simp,.call ht af h3 aD,X⟩
   rw[show gq qk _=[] by simp[gq,c,iq,kR,gH,gL,fO,jT,fK,qk]]at X;exact⟨_,_,_,rfl,.name ht,X⟩
  ·obtain⟨l,us,rfl,af,X⟩:=eP xab X;obtain⟨e,f,v,rfl,N,X⟩:=g.e _ (by grind) _ X;obtain⟨u,p,rfl,aD,X⟩:=eP xab X;exact⟨_,_,_,by simp,.par af N aD,X⟩
  iterate 2
   ·obtain⟨y,l,e,us,v,rfl,F,af,N,X,bP⟩:=tJ g O X xab
    obtain⟨u,q,rfl,aD,X⟩:=eP xab X
    exact⟨_,y::l::(us++[u]),_,by simp,.key1 (by first|exact .inl F|exact .inr F) af N aD,X⟩
  iterate 2
   ·obtain⟨y,l,e,us,v,rfl,F,af,N,X,bP⟩:=tJ g O X xab
    obtain⟨c,w,rfl,ah,X⟩:=eP xab X
    obtain⟨a9,u2,ag,rfl,h3,X⟩:=g.e _ (by grind) _ X
    obtain⟨u,q,rfl,aD,X⟩:=eP xab X
    exact⟨_,y::l::(us++c::(u2++[u])),_,by simp,.key2 (by first|exact .inl F|exact .inr F) af N ah h3 aD,X⟩
  ·obtain⟨y,l,e,us,v,rfl,F,af,N,X,bP⟩:=tJ g O X xab;obtain⟨c,w,rfl,ah,X⟩:=eP xab X;obtain⟨a9,u2,ag,rfl,h3,X⟩:=g.e _ (by grind) _ X;obtain⟨c2,z,rfl,Z,X⟩:=eP xab X;obtain⟨ai,u3,aF,rfl,a6,X⟩:=g.e _ (by grind) _ X;obtain⟨u,q,rfl,aD,X⟩:=eP xab X;exact⟨_,_,_,by simp,.key3 F af N ah h3 Z a6 aD,X⟩
  iterate 2
   ·obtain⟨y,l,e,us,v,rfl,F,af,N,X,bP⟩:=tJ g O X xab
    obtain⟨c,w,rfl,ah,X⟩:=eP xab X
    obtain⟨m,B,rfl,am,X⟩:=eP xab X
    obtain⟨u,q,rfl,aD,X⟩:=eP xab X
    exact⟨_,y::l::(us++[c,m,u]),_,by simp,.keyN (by first|exact .inl F|exact .inr F) af N ah am aD,X⟩
  ·obtain⟨y,l,e,us,v,rfl,F,af,N,X,bP⟩:=tJ g O X xab;obtain⟨c,w,rfl,ah,X⟩:=eP xab X;obtain⟨i,H,rfl,hi,X⟩:=eP xab X;obtain⟨c2,z,rfl,Z,X⟩:=eP xab X;obtain⟨m,B,rfl,am,X⟩:=eP xab X;obtain⟨u,q,rfl,aD,X⟩:=eP xab X;exact⟨_,_,_,by simp,.put F af N ah hi Z am aD,X⟩
  ·obtain⟨y,l,e,us,v,rfl,F,af,N,X,bP⟩:=tJ g O X xab;obtain⟨c,w,rfl,ah,X⟩:=eP xab X;obtain⟨x,C,rfl,an,X⟩:=eP xab X;obtain⟨u,q,rfl,aD,X⟩:=eP xab X;exact⟨_,_,_,by simp,.grad F af N ah an aD,X⟩
  ·obtain⟨y,l,e,us,v,rfl,F,af,N,X,bP⟩:=tJ g O X xab;obtain⟨c,w,rfl,ah,X⟩:=eP xab X;obtain⟨x,C,rfl,an,X⟩:=eP xab X;obtain⟨c2,z,rfl,Z,X⟩:=eP xab X;obtain⟨ai,u3,aF,rfl,a6,X⟩:=g.e _ (by grind) _ X;obtain⟨u,q,rfl,aD,X⟩:=eP xab X;exact⟨_,_,_,by simp,.jvp F af N ah an Z a6 aD,X⟩
  obtain⟨t,us,rfl,ht,X⟩:=eP xab X;exact⟨_,_,_,rfl,.num (.inr ht),X⟩
 rw[wV h]at X;obtain⟨t,us,rfl,ht,X⟩:=eP xab X;exact⟨_,_,_,rfl,.num (.inl ht),X⟩
theorem Px(g:Gr n k)(ts)(O:ts.length<k+1):DE n jT 1 ts:=by
 intro r X;rw[iF xab,vl]at X;obtain⟨a,us,v,rfl,F,X⟩:=Pw g _ O _ X;obtain⟨e,p,j,rfl,N,X⟩:=MQ g _ (by grind) r a _ (.up01 F) X;grind
theorem MR(g:Gr n k)(ts)(O:ts.length<k+1):TkM n fO 2 ts:=by
 intro r a Q af X;rw[iF xab]at X;by_cases c:hdS ts=[43]\/hdS ts=[45]
 ·have a5:gq fO (hdS ts)=[hdS ts,jT,fO]:=by
   rcases c with c|c<;>rw[c]<;>rfl
  rw[a5]at X;obtain⟨o,us,rfl,ho,X⟩:=eP (by rcases c with c|c<;>rw[c]<;>decide) X;rw[<-ho]at c;obtain⟨b,f,v,rfl,N,X⟩:=g.t us (by simp at O;omega) _ X;obtain⟨e,p,j,rfl,h3,X⟩:=g.mt v (by simp at O;omega) r (.bin o a b) (Q++o::f) (.add af c N) X;exact⟨e,o::(f++p),j,by simp,by simpa using h3,X⟩
 have a5:gq fO (hdS ts)=[]:=by
  unfold gq;rw[hC xab,hC xab,hC xab,hC xab,hD rfl,hC c]
 rw[a5]at X;exact⟨a,[],ts,rfl,by simpa using af,X⟩
theorem Qr(g:Gr n k)(ts)(O:ts.length<k+1):DE n gL 2 ts:=by
 intro r X;rw[iF xab,vm]at X;obtain⟨a,us,v,rfl,F,X⟩:=Px g _ O _ X;obtain⟨e,p,j,rfl,N,X⟩:=MR g _ (by grind) r a _ (.up12 F) X;grind
theorem Py(g:Gr n k)(ts)(O:ts.length<k+1):Pv n ts:=by
 intro r es Q af X;rw[iF xab]at X;by_cases c:hdS ts=[44]
 ·have a5:gq gX (hdS ts)=[[44],gL,gX]:=by rw[c];rfl
  rw[a5]at X;obtain⟨o,us,rfl,ho,X⟩:=eP xab X;obtain⟨b,f,v,rfl,N,X⟩:=g.e us (by simp at O;omega) _ X;obtain⟨e,p,j,rfl,h3,X⟩:=g.ma v (by simp at O;omega) r _ (Q++o::f) (.argM af ho N) X;exact⟨e,o::(f++p),j,by simp,by simpa using h3,X⟩
 have a5:gq gX (hdS ts)=[]:=by
  unfold gq;rw[hC xab,hC xab,hC xab,hC xab,hC xab,hC xab,hC xab,hC xab,hC xab,hD rfl,hC c]
 rw[a5]at X;exact⟨es,[],ts,rfl,by simpa using af,X⟩
theorem pG(n):∀k,Gr n k
 |0=>⟨λ_ h=>by omega,λ_ h=>by omega,λ_ h=>by omega,λ_ h=>by omega,λ_ h=>by omega,λ_ h=>by omega⟩
 |k+1=>⟨Pw (pG n k),MQ (pG n k),Px (pG n k),MR (pG n k),Qr (pG n k),Py (pG n k)⟩
theorem qt{r}(h:fA n ts (gL::r)=-1):∃e us v,ts=us++v/\Pr 2 [e] us/\fA n v r=-1:=(pG n (ts.length+1)).e ts yaf r h
