import Derived.Test.YtiacbhjphaldlaaGreatDoorP47
import Derived.Test.YtiacbhjphaldlaaGreatDoorP33
namespace Go.Proofs.Z
variable{w a e n t}
variable{Zp:Prop}
open Tryz Go.RowKit Flt
set_option maxRecDepth 1000000
set_option maxHeartbeats 0
section
structure TxA(w:World)(a:Option Addr)(n:Nat)(t:List UInt8):Prop where
 len:t.length=n
 at_:0<n->∃g off,a=some ⟨g,off,none⟩/\TxS w g off n t
theorem TxA.keep{D}(h:TxA w a n t)(k:Kept 0 0 w D):TxA D a n t:=
 ⟨h.len,λV=>by obtain⟨g,aO,e,z⟩:=h.at_ V;exact⟨g,_,e,z.keep k⟩⟩
end
section
attribute[local go_sem] dI dG dF
theorem Pk{cap}(f:TxA w a n t)(V:n<=100000)(aY:n<=cap):Calls prog 18 #[.slice a n cap] w λe D=>∃v,e=.returned v/\PkR D w.heap.size v (scM t 0)/\Kept 0 0 w D:=by
 have aJ:M (∀W,Kept 0 0 w W->_):=λW k=>f.keep k;have bg:=Q f.len;obtain⟨aH,bo⟩:∃aH,aH=scM t 0:=⟨_,rfl⟩
 rw[<-bo];have an:M ([]++scM t 0=aH):=bo.symm;clear f bo;have ae:M (PkR w w.heap.size (.slice none 0 0) []):=PkR.nil _ _;go_enter func18,ntmps18;go_wp2_with fail;go_step3
 go_wp2_with fail;go_step3
 go_wp2_with fail;go_loopw [3,4] (λbm aC A=>∃(k:Nat) (l:List PTk),k<=n/\l.length<=k/\aC=h0 k/\M (PkR A w.heap.size bm l)/\M (Kept 0 0 w A)/\M (l++scM t k=aH)) (λ_ aC _=>n-(intOf aC).toNat)
 case atStart=>exact⟨0,[],yad,yac,rfl,ae,(show M (Kept 0 0 w w) from Kept.refl 0 0 w),an⟩
 case round=>
  obtain⟨k,l,H,z,rfl,F,bd,b0⟩:=hrel;clear an ae;by_cases aV:k<n
  ·obtain⟨g,aO,bD,y⟩:=(aJ.o wr bd.o).at_ xaa;subst bD;have bk:=Q y;have c:=y.at_ k aV;have h:M _:=Mn (bt t k) wr;have j:M _:=sh (bt t k) wr;have r:M _:=zt (bt t k) wr;have u:M _:=D6 (bt t k) wr;cases I:od (bt t k)
   ·rw[I]at h;cases aN:(bt t k==35)
    ·have ax:=Q I;have aX:M (bt t k≠35):=λe=>by rw[e]at aN;simp at aN
     cases aT:dig (bt t k)
     ·rw[aT]at j;cases ab:jy (bt t k)
      ·rw[ab]at r;cases aR:pi (bt t k)
       ·rw[aR]at u;have ce:M (pq (bt t k)=false):=by show _=_;unfold pq;rw[aT,ab,aR];rfl
        clear I aT ab aR;generalize ar:bt t k=x at c h j r u aN;clear ar;have ah:M (l++[⟨1,[],k⟩]=aH):=by show _=_;rw[<-b0.o,uq (it bg.o aV) ax.o aX.o ce.o]
        have O:=nD wr ⟨1,[],k⟩ 84;simp only at O;have aE:=dE 0 0 wr (.cells #[h0 1,dJ [],h0 k] 84);have b:M _:=PkR.keep F.o aE;have s:M _:=bd.o.trans aE;have av:=Q bd.o.size
        go_wp2_with (first
         |(go_at_call 39;refine yai h.o ?_;rintro e Z ⟨rfl,X⟩;obtain rfl:=X.symm)
         |(go_at_call 42;refine yai j.o ?_;rintro e Z ⟨rfl,X⟩;obtain rfl:=X.symm)
         |(go_at_call 44;refine yai r.o ?_;rintro e Z ⟨rfl,X⟩;obtain rfl:=X.symm)
         |(go_at_call 46;refine yai u.o ?_;rintro e Z ⟨rfl,X⟩;obtain rfl:=X.symm)
         |(at_builtin;refine i6 _ rfl _ _ rfl w.heap.size _ l (by rfl) b.o ⟨wr.heap.size,0,none⟩ ⟨1,[],k⟩ (by rfl) O ?c2 ?c3 ?_)
         |fail)
        case c2=>omega
        case c3=>have:=av.o;simp;omega
        exact xeb
       rw[aR]at u;have ce:M (pq (bt t k)=true):=by show _=_;unfold pq;rw[aT,ab,aR];rfl
       have bS:M (wdE t k=k+1):=by show _=_;unfold wdE;rw[aT,h2 xab,ab,h2 xab]
       have aw:k+1<=n:=xaa;clear I aT ab aR;generalize ar:bt t k=x at c h j r u aN;clear ar
       go_upto_region 15 with (first
        |(go_at_call 39;refine yai h.o ?_;rintro e Z ⟨rfl,X⟩;obtain rfl:=X.symm)
        |(go_at_call 42;refine yai j.o ?_;rintro e Z ⟨rfl,X⟩;obtain rfl:=X.symm)
        |(go_at_call 44;refine yai r.o ?_;rintro e Z ⟨rfl,X⟩;obtain rfl:=X.symm)
        |(go_at_call 46;refine yai u.o ?_;rintro e Z ⟨rfl,X⟩;obtain rfl:=X.symm))
       have q:M _:=iZ (c:=cap-k) ((bk.o).cut (i:=k) (j:=(k+1)) aw);have aF:=q.o;rw[Nat.add_sub_cancel_left]at aF;have o:0<(fJ t k (k+1)).length:=by rw[kJ (it bg.o aw)];omega
       have i:M _:=Eu (fJ t k (k+1)) o wr
       have ah:M (l++[⟨eV (fJ t k (k+1)),fJ t k (k+1),k⟩]++scM t (k+1)=aH):=by
        exact xen
       have O:=nD wr ⟨eV (fJ t k (k+1)),fJ t k (k+1),k⟩ 84;simp only at O;generalize eV (fJ t k (k+1))=i1 at i ah O;generalize fJ t k (k+1)=bz at aF i ah O;have aE:=dE 0 0 wr (.cells #[h0 i1,dJ bz,h0 k] 84);have b:M _:=PkR.keep F.o aE;have s:M _:=bd.o.trans aE;have av:=Q bd.o.size;clear q
       go_wp2_with (first
        |(go_at_call 47;refine yai i.o ?_;rintro e Z ⟨rfl,X⟩;obtain rfl:=X.symm)
        |(at_builtin;refine i6 _ rfl _ _ rfl w.heap.size _ l (by rfl) b.o ⟨wr.heap.size,0,none⟩ ⟨i1,bz,k⟩ (by rfl) O ?c2 ?c3 ?_)
        |fail)
       case c2=>omega
       case c3=>have:=av.o;simp;omega
       intro g9 cap9 n9 bn b4 ca bO cn;have aG:M _:=pt yac s.o b.o bO;have R:M (PkR bn w.heap.size (hZ g9 n9 cap9) (l++[(⟨i1,bz,k⟩:PTk)])):=ca;clear ca bO cn b4 aE O b s aF;go_wp2_with fail;go_roundw
       case rel=>exact⟨(k+1),l++[(⟨i1,bz,k⟩:PTk)],aw,by rw[yak];simp only[List.length_singleton];omega,by go_num,R,aG,ah⟩
       case measure=>simp[intOf];omega
      rw[ab]at r;have ce:M (pq (bt t k)=true):=by show _=_;unfold pq;rw[aT,ab];rfl
      have m:M (wdE t k=eF jz t k):=by show _=_;unfold wdE;rw[aT,h2 xab,ab,h3 rfl]
      have C:=iV (p:=jz) (t:=t) (j:=k) (it bg.o aV) (by unfold jz;rw[ab];rfl);have aw:=iC jz t k (ix bg.o);rw[bg.o]at aw;have U:M _:=OB wr g aO n cap t bk.o xaa k xaa;generalize eF jz t k=p at m C aw U;have bS:=Q m.o;clear I aT ab m;generalize ar:bt t k=x at c h j r aN;clear ar
      go_upto_region 15 with (first
       |(go_at_call 39;refine yai h.o ?_;rintro e Z ⟨rfl,X⟩;obtain rfl:=X.symm)
       |(go_at_call 42;refine yai j.o ?_;rintro e Z ⟨rfl,X⟩;obtain rfl:=X.symm)
       |(go_at_call 44;refine yai r.o ?_;rintro e Z ⟨rfl,X⟩;obtain rfl:=X.symm)
       |(go_at_call 40;refine yai U.o ?_;rintro e Z ⟨rfl,X⟩;obtain rfl:=X.symm))
      exact xar
     rw[aT]at j;have ce:M (pq (bt t k)=true):=by show _=_;unfold pq;rw[aT];rfl
     have m:M (wdE t k=jl t k):=by show _=_;unfold wdE;rw[aT,h3 rfl]
     have C:=pd (t:=t) (i:=k) (it bg.o aV) aT;have aw:=pe (t:=t) (i:=k) (it bg.o aV);rw[bg.o]at aw;have R:M _:=In wr g aO n cap t bk.o xaa k aV;generalize jl t k=p at m C aw R;have bS:=Q m.o;clear I aT m;generalize ar:bt t k=x at c h j aN;clear ar
     go_upto_region 15 with (first
      |(go_at_call 39;refine yai h.o ?_;rintro e Z ⟨rfl,X⟩;obtain rfl:=X.symm)
      |(go_at_call 42;refine yai j.o ?_;rintro e Z ⟨rfl,X⟩;obtain rfl:=X.symm)
      |(go_at_call 43;refine yai R.o ?_;rintro e Z ⟨rfl,X⟩;obtain rfl:=X.symm))
     exact xar
    have ah:M (l++scM t (eF j9 t k)=aH):=by show _=_;rw[<-b0.o,xM (it bg.o aV) I (eq_of_beq aN)]
    have C:=iV (p:=j9) (t:=t) (j:=k) (it bg.o aV) (by rw[eq_of_beq aN];decide);have aw:=iC j9 t k (ix bg.o);rw[bg.o]at aw;have U:M _:=OC wr g aO n cap t bk.o xaa k xaa;generalize eF j9 t k=p at ah C aw U;clear I;generalize ar:bt t k=x at c h aN;clear ar
    go_wp2_with (first
     |(go_at_call 39;refine yai h.o ?_;rintro e Z ⟨rfl,X⟩;obtain rfl:=X.symm)
     |(go_at_call 40;refine yai U.o ?_;rintro e Z ⟨rfl,X⟩;obtain rfl:=X.symm))
    go_roundw
    case rel=>exact⟨p,l,aw,by omega,rfl,F,bd,ah⟩
    case measure=>simp[intOf];omega
   rw[I]at h;have ah:M (l++scM t (k+1)=aH):=by show _=_;rw[<-b0.o,uo (it bg.o aV) I]
   clear I;generalize ar:bt t k=x at c h;clear ar
   go_wp2_with (first
    |(go_at_call 39;refine yai h.o ?_;rintro e Z ⟨rfl,X⟩;obtain rfl:=X.symm))
   go_roundw
   case rel=>exact⟨k+1,l,by omega,by omega,by go_num,F,bd,ah⟩
   case measure=>simp[intOf];omega
  obtain rfl:k=n:=xaa;have ah:M (l++[⟨0,[],k⟩]=aH):=by show _=_;rw[<-b0.o,AD (ix bg.o)]
  have O:=nD wr ⟨0,[],k⟩ 84;simp only at O;have aE:=dE 0 0 wr (.cells #[h0 0,dJ [],h0 k] 84);have b:M _:=PkR.keep F.o aE;have s:M _:=bd.o.trans aE;have av:=Q bd.o.size
  go_wp2_with (first
   |(at_builtin;refine i6 _ rfl _ _ rfl w.heap.size _ l (by rfl) b.o ⟨wr.heap.size,0,none⟩ ⟨0,[],k⟩ (by rfl) O ?c2 ?c3 ?_)
   |fail)
  case c2=>omega
  case c3=>have:=av.o;simp;omega
  exact xeb
end
section
theorem KY(t i):(bt t i).toNat.toUInt8=t.getD i 0:=by
 unfold bt;rw[Int.toNat_natCast];simp
theorem rq(t i)(hi:i<=t.length):scM t i=(jx t (skM t i)).map cvT++clT t (jx t (skM t i)):=by
 by_cases h:i<t.length
 ·cases I:od (bt t i)
  ·by_cases aN:bt t i=35
   ·have aG:=iV (p:=j9) h (by rw[aN];decide);rw[xM h I aN,xy h aN];exact rq t _ (iC _ _ _ hi)
   rw[xz h I aN];cases a:pq (bt t i)
   ·rw[uq h I aN a];unfold pq at a;simp only[Bool.or_eq_false_iff]at a;obtain⟨⟨z,J⟩,al⟩:=a;have e:nxT t i=⟨iD (t.getD i 0),i,iD (t.getD i 0)⟩:=by grind[nxT]
    have G:iD (t.getD i 0)=[]:=by grind[pi,KY,iD]
    rw[G]at e;rw[ue h (by rw[e]),e];rfl
   have e0:=Ev h;rw[pr h I aN a]
   have key:(nxT t i).sym≠[]/\cvT (nxT t i)=⟨eV (fJ t i (wdE t i)),fJ t i (wdE t i),i⟩/\nxE t i=wdE t i:=by
    cases ab:jy (bt t i)
    ·cases aT:dig (bt t i)
     ·unfold pq at a;rw[ab,aT]at a;simp only[Bool.false_or]at a;unfold pi at a;rw[KY]at a;have aR:=of_decide_eq_true a;have G:iD (t.getD i 0)=[t.getD i 0]:=by unfold iD;grind
      have e:nxT t i=⟨[t.getD i 0],i,[t.getD i 0]⟩:=by grind[nxT]
      have f:wdE t i=i+1:=by grind[wdE]
      have C:fJ t i (i+1)=[t.getD i 0]:=by
       unfold fJ;rw[show i+1-i=1 by omega,List.drop_eq_getElem_cons h,yah,yal h];rfl
      refine⟨by rw[e];simp,?_,?_⟩
      ·rw[e,f,C];rfl
      grind[nxE]
     have e:nxT t i=⟨mB t i,i,fJ t i (jl t i)⟩:=by grind[nxT]
     have f:wdE t i=jl t i:=by unfold wdE;grind
     have b:mB t i≠[]:=by unfold mB;split<;>decide
     grind[cvT,nxE]
    have aT:dig (bt t i)=false:=by grind[dig,jy]
    have e:nxT t i=⟨jQ (fJ t i (eF jz t i)),i,fJ t i (eF jz t i)⟩:=by unfold nxT;grind
    have f:wdE t i=eF jz t i:=by grind[wdE]
    have b:jQ (fJ t i (eF jz t i))≠[]:=by
     unfold jQ;split
     ·rename_i aR;intro c;rw[c]at aR;revert aR;decide
     decide
    grind[cvT,nxE]
   obtain⟨af,ad,a5⟩:=key;rw[xA h af,a5,List.map_cons,ad,xN af,rq t _ (MB h)];rfl
  rw[uo h I,uc h I];exact rq t _ xaa
 have e:i=t.length:=xaa;subst e;rw[AD h,Ax h,ud h];rfl
termination_by t.length-i
decreasing_by
 all_goals omega
theorem FW(t):scM t 0=(eK t).map cvT++clT t (eK t):=rq t 0 yad
theorem pF(t):(fh t).length=t.length:=by unfold fh;grind
end
section
attribute[local go_sem] dI dG dF gh gj gn mkF
variable{n:Nat}{ts:List Tok}
theorem zQ(r):dT n ts ([d6]++r)=dT n ts ([ja,fd]++r):=by
 show dT n ts (d6::r)=_;rw[fD xab,pX]
theorem zR(r):dT n ts ([ja]++r)=dT n ts ([fo,eW]++r):=by
 show dT n ts (ja::r)=_;rw[fD xab,pW]
theorem Ot.turn{E st st2 bv D}(f:Ot E w ts st bv e D)(h:∀r,dT E.t.length ts (st2++r)=dT E.t.length ts (st++r)):Ot E w ts st2 bv e D:=by
 obtain⟨us,T,v,z,J,al,bw⟩|⟨p,z,J,al⟩:=f
 ·exact .inl ⟨_,_,v,z,J,λr=>(h r).trans (al.o r),bw⟩
 exact .inr ⟨p,z,λr=>(h r).trans (J.o r),al⟩
theorem KZ{E}(ag:XC E 117 [fo] 0 n):XC E 101 [ja] 1 n:=by
 intro w ts f bD;have aE:M _:=FV Pj (.inr ⟨rfl,rfl⟩) (opS (.inr ⟨rfl,rfl,rfl,rfl,rfl⟩)) ag f bD;clear ag f bD;go_enter func101,ntmps101;go_wp2_with (go_at_call 100;refine yai aE.o ?_;intro e Z h;replace h:=h.turn zR;obtain⟨us,T,v,rfl,J,al,bw⟩|⟨p,rfl,J,al⟩:=h;rotate_left;exact h1 rfl (.inr ⟨p,rfl,J,al⟩));go_ret;exact .inl ⟨_,_,_,rfl,J,al,bw⟩
theorem K0{E}(C:XC E 101 [ja] 1 n):XC E 80 [d6] 2 n:=by
 intro w ts f bD;have aE:M _:=FV Pi (.inl ⟨rfl,rfl⟩) (opS (.inl ⟨rfl,rfl,rfl,rfl,rfl⟩)) C f bD;clear C f bD;go_enter func80,ntmps80;go_wp2_with (go_at_call 100;refine yai aE.o ?_;intro e Z h;replace h:=h.turn zQ;obtain⟨us,T,v,rfl,J,al,bw⟩|⟨p,rfl,J,al⟩:=h;rotate_left;exact h1 rfl (.inr ⟨p,rfl,J,al⟩));go_ret;exact .inl ⟨_,_,_,rfl,J,al,bw⟩
end
section
theorem FX{E}(ax:XC E 80 [d6] 2 n)(W ts)(f:Ps E W ts)(bD:ts.length<n+1)(H:hdS ts∈keysL):Calls prog 127 #[ge E.P] W (Ot E W ts [fo] (GNd W 0)):=by
 cases ts with
 |nil=>exact absurd H xab
 |cons k R=>
  have ab:R.length<n+1:=by grind
  have H:k.sym∈[kIn,tO,tP,sw,tQ]++[oA,vx,l8,xD,qO,mU,lO,vy,sb,zh]:=H;obtain h|h:=List.mem_append.1 H
  ·exact P4 f h
  simp only[List.mem_cons,List.not_mem_nil,or_false]at h;obtain h|h|h|h|h|h|h|h|h|h:=h
  ·exact kw1 ax f ab (.inl h)
  ·exact kw1 ax f ab (.inr h)
  ·exact Pb ax f ab h
  ·exact Pf ax f ab h
  ·exact Pc ax f ab h
  ·exact kwN ax f ab (.inl h)
  ·exact kwN ax f ab (.inr h)
  ·exact Pd ax f ab h
  ·exact Nj ax f ab h
  exact Pg ax f ab h
theorem uK(E):∀n,XC E 117 [fo] 0 n
 |0=>λ_ _ _ h=>absurd h (Nat.not_lt_zero _)
 |n+1=>by
  have O:=uK E n
  have ax:=K0 (KZ O)
  exact Nh (λW ts f ab j=>FS ax (FX ax) f ab j) O
theorem pG{E W ts}(f:Ps E W ts):Calls prog 80 #[ge E.P] W (Ot E W ts [d6] (GNd W 2)):=K0 (KZ (uK E (ts.length+1))) W ts f yae
end
section
attribute[local go_sem] dI dG dF gh gj gn mkF
variable{ps:List (List UInt8)}{w A:World}{ys G:List Nat}{ρ:Nat->Nat}{B g n cap:Nat}{sl v:Value}{ts us R:List Tok}{k:Tok}{aI:List Sm}{vs:List Value}{s:Sm}{aO:List TkV}{S:Nat->Prop}
theorem Nk{ps}(h:PPm ps ts):ps.length<=ts.length:=by
 induction h<;>simp_all<;>omega
theorem CN(h:hdS ts≠eu)(r):dT n ts (ig::r)=dT n ts r:=by
 rw[fD xab,show fg ig _=[] from h2 h];rfl
theorem FY{p:Nat}(h:hdS ts≠[41])(X:∀r,dT n ts ([eu]++r)=(p:Int))(r):dT n ts (ig::[41]::r)=(p:Int):=by
 by_cases c:hdS ts=eu
 ·rw[fD xab,c];exact X _
 rw[CN c,lD xab h];have K:=X [];rw[show[eu]++[]=eu::([]:List _) from rfl,lD xab c]at K;exact K
theorem Nl{W:World}(k){B}(ax:B<=W.heap.size):PkR (W.alloc (.cells #[h0 k.kind,dJ k.text,h0 k.at_] 84)) B (hZ W.heap.size 1 1) [k]:=by
 refine⟨by simp[ptF,ptc],.inr ⟨W.heap.size,1,#[h0 k.kind,dJ k.text,h0 k.at_],rfl,ax,?_,yac,by decide,rfl,by simp[ptF,ptc]⟩⟩;simp[World.alloc,-World.alloc_eq]
theorem aQ.qbo(h:Zp:=by
 rw[c.block g aG (λe=>by omega)];exact bi):Zp:=h
open aQ in
theorem Ba{E W ts}(f:PkR W B v ts)(c:Ch E W A)(h:E.P<B):PkR A B v ts:=by
 refine⟨f.1,f.2.imp id ?_⟩;exact qbn
def GPs(w:World)(us:List Tok)(v:Value)(w':World):Prop:=∃ps,PkR w' w.heap.size v (ps.map cvT)/\((ps=[]/\∃l r,us=[l,r]/\l.sym=[40]/\r.sym=[41])\/∃l r t1,us=l::(t1++[r])/\l.sym=[40]/\PPm ps t1/\r.sym=[41])
theorem bZ.qcp(h:Zp:=by
 go_wp2_with (first
  |(go_at_call 99;refine Otp.call (be.o _ _ t.o.ps) t.o ib (λ_ _ h=>h1 rfl h) ?_;rintro am Y aC aA F c5 ⟨aZ,rfl,i1,rfl⟩;have aT:=nD aA (cvT aZ) 84;have c6:M _:=Ba bL.o (cA.o.andThen c5) j.o.1;have U:M _:=PkR.keep c6.o (dE 0 0 _ (.cells #[h0 (cvT aZ).kind,dJ (cvT aZ).text,h0 ((cvT aZ).at_:Int)] 84));unfold tkV)
  |(at_builtin;refine i6 _ rfl _ _ rfl _ _ _ (by rfl) U.o _ _ (by rfl) aT cd.o ?c3 ?_))
 case c3=>have z:=F.ch.size;simp;omega
 intro g9 cap9 n9 bn b4 ca bO cn;have D:=F.keep (dE 0 0 _ (.cells #[h0 (cvT aZ).kind,dJ (cvT aZ).text,h0 ((cvT aZ).at_:Int)] 84));have af:∀b,Value.ownBlock _=some b->w.heap.size<=b:=λb e=>(dO c6.o e).1;have aE:M (Otp E w _ _ (l::(us++[k,aZ])) _ [fi,[41]] _):=⟨by rw[D.sp];simp,D.wr,D.ps.far bO (λb e=>ip (af b e) j.o.2.1),D.ch.new bO (λb h e=>ih (af b e))⟩
 have q:M (PPm (ps++[aZ]) _):=.more aX.o H.o i1;have u:M (PkR bn w.heap.size (hZ g9 n9 cap9) ((ps++[aZ]).map cvT)):=by rw[List.map_append];exact ca
 have aj:Y.length<gk:=by have h:=congrArg List.length (t.o.sp.symm.trans F.sp);simp at h;omega
 clear ca bO cn D F c5 af b4 c6 U aT;go_wp2_with fail;go_roundg Y.length
 case measure=>exact aj
 case rel=>exact⟨_,_,_,rfl,q,u,aE⟩):Zp:=h
theorem bZ.qfm(h:Zp:=by
 obtain⟨k,cM,rfl,H,a⟩|⟨c,aN,o,aP,aG,a⟩:=yo [41] C.o.ps
 ·have t:M (Otp E w _ _ [l] _ [[41]] _):=C.o.ruleK (R:=[]) H.o;go_wp2_with (first|(go_at_call 48;refine yai a.o ?_;rintro e Z ⟨rfl,ad⟩)|(go_at_call 79;refine t.o.taken H.o ad ?_;intro ao i c3));go_ret;exact i.ret ⟨_,PkR.nil _ _,.inl ⟨rfl,l,k,rfl,ab.o,H.o⟩⟩ rfl
 have cx:M (∀p:Nat,(∀r,dT _ _ _=p)->∀r,dT _ _ _=p):=λp aB r=>(C.o.wr r).trans (FY c aB r);clear c;go_wp2_with (first|(go_at_call 48;refine yai a.o ?_;rintro e Z ⟨rfl,ad⟩)|(go_at_call 99;refine yai (be.o _ _ (C.o.ps.keep ad)) ?_;rintro e ao (⟨cM,aw,aM,rfl,ah,L,aq,ag,co,x,I,rfl⟩|⟨p,rfl,L,ag⟩);rotate_left;exact h1 rfl (Or.inr ⟨p,rfl,cx.o p L.o,(C.o.ch.andThen ad.chg).andThen ag⟩);replace x:M _:=x;unfold tkV));have aK:=dE 0 0 ao (.cells #[h0 (cvT co).kind,dJ (cvT co).text,h0 ((cvT co).at_:Int)] 84);have P:Ch E w _:=(C.o.ch.andThen ad.chg).andThen ag;have aD:M _:=Nl (cvT co) P.size
 have i:Otp E w ts [[40],ig,[41]] [l,co] aw [fi,[41]] ao:=by
  have e:=ah.o;rw[x.o]at e;subst e;exact⟨C.o.sp,λr=>((C.o.ruleK I).wr r).trans (kZ xab I _),aq,P⟩
 have ai:M _:=i.keep aK;have K:M _:=PPm.one I;clear aq ag ad aK P a cx L i;go_loopg [5] aw.length (λm sl W=>∃(ps us T:List Tok),T.length=m/\M (PPm ps us)/\M (PkR W w.heap.size sl (ps.map cvT))/\M (Otp E w ts [[40],ig,[41]] (l::us) T [fi,[41]] W))
 case atStart=>exact⟨_,_,_,rfl,K,aD,ai⟩
 case round=>
  obtain⟨ps,us,T,aR,aX,bL,ar⟩:=hrel;clear aD ai K ah;obtain⟨k,ay,rfl,H,a⟩|⟨c,aN,o,aP,aG,a⟩:=yo [44] ar.o.ps
  ·have aF:M _:=ar.o.ruleK (R:=[[44],eu,fi]) H.o;have bp:ay.length<gk:=by grind
   have cd:M ((ps.map cvT).length+1<=1000000):=by
    have z:=Nk aX.o;have J:=j.o.2.2;rw[ar.o.sp]at J;simp at J;show _<=_;rw[List.length_map];omega
   exact qco
  have ai:M _:=ar.o.rule (h2 c);have O:M (∀W,Kept 0 0 _ W->_):=λW ae=>eX (ar.o.ps.keep ae) (s:=[41]) xab;clear c;go_wp2_with (first|(go_at_call 48;refine yai a.o ?_;rintro e Z ⟨rfl,ad⟩)|(go_at_call 82;refine Otp.call (O.o _ ad) ai.o ad (λ_ _ h=>h1 rfl h) ?_;rintro am Y aC aA F c5 ⟨au,rfl,ak,rfl⟩));go_ret;exact F.ret ⟨_,Ba bL.o (ad.chg.andThen c5) j.o.1,.inr ⟨l,_,_,rfl,ab.o,aX.o,ak⟩⟩ rfl):Zp:=h
open bZ in
theorem JU{E}(f:Ps E w ts):Calls prog 98 #[ge E.P,.func (.func 99) #[ge E.P] #[]] w (Ot E w ts [[40],ig,[41]] (GPs w)):=by
 have be:M _:=λW us g=>O8 (E:=E) (w:=W) (ts:=us) g;have j:M (E.P<w.heap.size/\E.N<=w.heap.size/\ts.length<=4001):=⟨f.nw.1,f.nw.2,f.len⟩
 have O:M _:=eX f (s:=[40]) xab;have bl:M (Otp E w _ [[40],ig,[41]] _ _ _ w):=.start f;clear f;go_enter func98,ntmps98;exact qfl
inductive Sd (W:World)(Maa:Nat->Prop):Value->Sm->Prop
 |inS {n l:Tok}:Sd W Maa (.iface 166 (.agg #[.int .i64 (cvT n).kind,dJ (cvT n).text,.int .i64 ((cvT n).at_:Int),.int .i64 (cvT l).kind,dJ (cvT l).text,.int .i64 ((cvT l).at_:Int)])) (.inS n l)
 |letS {n:Tok}{e:Ex}{v:Value}:Nd W Maa v e->Sd W Maa (.iface 168 (.agg #[.int .i64 (cvT n).kind,dJ (cvT n).text,.int .i64 ((cvT n).at_:Int),v])) (.letS n e)
 |rep {i n:Tok}{e:Ex}{v:Value}:Nd W Maa v e->Sd W Maa (.iface 170 (.agg #[.int .i64 (cvT i).kind,dJ (cvT i).text,.int .i64 ((cvT i).at_:Int),.int .i64 (cvT n).kind,dJ (cvT n).text,.int .i64 ((cvT n).at_:Int),v])) (.rep i n e)
 |defS {n:Tok}{ps:List Tok}{e:Ex}{sl v:Value}:PkR W 0 sl (ps.map cvT)->(∀b,sl.ownBlock=some b->Maa b)->Nd W Maa v e->Sd W Maa (.iface 175 (.agg #[.int .i64 (cvT n).kind,dJ (cvT n).text,.int .i64 ((cvT n).at_:Int),sl,v])) (.defS n ps e)
 |outS {k:Tok}{e:Ex}{v:Value}:Nd W Maa v e->Sd W Maa (.iface 137 (.agg #[.int .i64 (cvT k).kind,dJ (cvT k).text,.int .i64 ((cvT k).at_:Int),v])) (.outS k e)
def GSt(w:World)(us:List Tok)(v:Value)(w':World):Prop:=∃s,PSm s us/\Sd w' (Fr w.heap.size) v s
theorem PkR.form{W ts}(f:PkR W B v ts):∃a cap,v=.slice a ts.length cap:=by
 exact xgu
theorem PkR.zero{W ts}(f:PkR W B v ts):PkR W 0 v ts:=⟨f.1,f.2.imp id (λ⟨g,cap,bp,z,_,al⟩=>⟨g,cap,bp,z,yad,al⟩)⟩
theorem Pm{W ts}(f:PkR W B v ts)(h:a<=B):PkR W a v ts:=⟨f.1,f.2.imp id (λ⟨g,cap,bp,z,J,al⟩=>⟨g,cap,bp,z,yan h J,al⟩)⟩
theorem C.qas(h:Zp:=by
 exact qfb):Zp:=h
theorem C.qfc(h:Zp:=by
 go_region_with (go_at_call 97;refine Otp.call (jW (q.o.ps.keep (dH _)) (.inr ⟨rfl,rfl⟩)) q.o (dH _) (λ_ _ h=>h1 rfl h) ?_;rintro i1 V J bn o bz ⟨b,rfl,(i:M _),rfl⟩;obtain⟨x,D,F,I,_⟩:=a.o.ch ((dH _).chg.andThen bz);unfold tkV)
 all_goals
  go_wp2
  refine yax (v:=.iface 166 (.agg #[h0 (cvT bB).kind,dJ (cvT bB).text,h0 ((cvT bB).at_:Int),h0 (cvT b).kind,dJ (cvT b).text,h0 ((cvT b).at_:Int)])) (by simp[results,results75,go_sem]) rfl ?_
  exact o.ret ⟨_,.inS c.o cG.o cv.o i.o,.inS⟩ rfl):Zp:=h
open C in
theorem Pn{E}(f:Ps E w (k::R))(H:k.sym=kIn):Calls prog 75 #[ge E.P] w (Ot E w (k::R) [k.sym,eu,[58],fx] (GSt w)):=by
 have bl:M (Otp E w _ [k.sym,eu,[58],fx] _ _ _ w):=.start f;have c:=Q H;clear f H;go_enter func75,ntmps75;exact qar
theorem D.qas(h:Zp:=by
 exact qfb):Zp:=h
theorem D.qfc(h:Zp:=by
 go_region_with (go_at_call 80;refine Otp.call (pG (q.o.ps.keep (dH _))) q.o (dH _) (λ_ _ h=>h1 rfl h) ?_;rintro i1 V J bn o bz ⟨aD,z,b4⟩;obtain⟨x,D,F,I,_⟩:=a.o.ch ((dH _).chg.andThen bz);obtain⟨p,t,rfl⟩:=b4.iface)
 all_goals
  go_wp2
  refine yax (v:=.iface 168 (.agg #[h0 (cvT bB).kind,dJ (cvT bB).text,h0 ((cvT bB).at_:Int),.iface p t])) (by simp[results,results76,go_sem]) rfl ?_
  exact o.ret ⟨_,.letS c.o cG.o cv.o z,.letS (b4.fr q.o.ch.size)⟩ rfl):Zp:=h
open D in
theorem Nn{E}(f:Ps E w (k::R))(H:k.sym=tO):Calls prog 76 #[ge E.P] w (Ot E w (k::R) [k.sym,eu,[61],d6] (GSt w)):=by
 have bl:M (Otp E w _ [k.sym,eu,[61],d6] _ _ _ w):=.start f;have c:=Q H;clear f H;go_enter func76,ntmps76;exact qar
theorem dG.qfe(h:Zp:=by
 replace b:M _:=b.o.ch c3;clear q c3;obtain⟨K,O,T,Y,_⟩:=a.o;obtain⟨r,u,ab,ad,_⟩:=b.o;go_region_with (go_at_call 80;refine Otp.call (pG (i.o.ps.keep (dH _))) i.o (dH _) (λ_ _ h=>h1 rfl h) ?_;rintro i1 V J bn o bz ⟨aD,z,b4⟩;obtain⟨x,D,F,I,_⟩:=a.o.ch ((dH _).chg.andThen bz);obtain⟨bg,e,j,l,_⟩:=b.o.ch ((dH _).chg.andThen bz);obtain⟨p,t,rfl⟩:=b4.iface)
 all_goals
  go_wp2
  refine yax (v:=.iface 170 (.agg #[h0 (cvT bB).kind,dJ (cvT bB).text,h0 ((cvT bB).at_:Int),h0 (cvT bQ).kind,dJ (cvT bQ).text,h0 ((cvT bQ).at_:Int),.iface p t])) (by simp[results,results77,go_sem]) rfl ?_
  exact o.ret ⟨_,.rep c.o cG.o cv.o aq.o z,.rep (b4.fr i.o.ch.size)⟩ rfl):Zp:=h
open dG in
theorem No{E}(f:Ps E w (k::R))(H:k.sym=tQ):Calls prog 77 #[ge E.P] w (Ot E w (k::R) [k.sym,fx,eu,[61],d6] (GSt w)):=by
 have bl:M (Otp E w _ [k.sym,fx,eu,[61],d6] _ _ _ w):=.start f;have c:=Q H;clear f H;go_enter func77,ntmps77;go_upto_region 2 with (go_at_call 79;refine bl.o.taken rfl ib ?_ (by rw[c.o];decide);rintro bh (m:M _) c0);clear bl c0;go_upto_region 3 with (go_at_call 97;refine Otp.call (jW m.o.ps (.inr ⟨rfl,rfl⟩)) m.o ib (λ_ _ h=>h1 rfl h) ?_;rintro y an r1 aH (C:M _) c1 ⟨bB,rfl,(cG:M _),rfl⟩;unfold tkV);have a:M _:=TBx.new C.o.ps bB;replace C:M _:=C.o.keep (dE 0 0 _ (tkO bB));clear m c1;generalize aH.alloc _=aa at*;generalize aH.heap.size=L at*;go_upto_region 4 with (go_at_call 97;refine Otp.call (jW C.o.ps (.inl ⟨rfl,rfl⟩)) C.o ib (λ_ _ h=>h1 rfl h) ?_;rintro P U bp aN (q:M _) c2 ⟨bQ,rfl,(cv:M _),rfl⟩;unfold tkV);replace a:M _:=a.o.ch c2;replace a:M _:=a.o.ch (dE 0 0 _ (tkO bQ)).chg;have b:M _:=TBx.new q.o.ps bQ;replace q:M _:=q.o.keep (dE 0 0 _ (tkO bQ));clear C c2;generalize aN.alloc _=Z at*;generalize aN.heap.size=bi at*;exact qfd
theorem E.qas(h:Zp:=by
 go_upto_region 4 with (go_at_call 98;refine Otp.call (JU C.o.ps) C.o ib (λ_ _ h=>h1 rfl h) ?_;rintro P U bp aN (q:M _) c2 ⟨ps,au,(ag:M _)⟩;obtain⟨al,ak,rfl⟩:=au.form);replace a:M _:=a.o.ch c2;have aF:M _:=Pm au C.o.ch.size;clear au;clear C c2;exact qfd):Zp:=h
theorem E.qfe(h:Zp:=by
 replace aF:M _:=Ba aF.o c3 j.o;clear q c3;obtain⟨K,O,T,Y,_⟩:=a.o;go_region_with (go_at_call 80;refine Otp.call (pG (i.o.ps.keep (dH _))) i.o (dH _) (λ_ _ h=>h1 rfl h) ?_;rintro i1 V J bn o bz ⟨aD,z,b4⟩;obtain⟨x,D,F,I,_⟩:=a.o.ch ((dH _).chg.andThen bz);obtain⟨p,t,rfl⟩:=b4.iface)
 all_goals
  go_wp2
  refine yax (v:=.iface 175 (.agg #[h0 (cvT bB).kind,dJ (cvT bB).text,h0 ((cvT bB).at_:Int),.slice al (ps.map cvT).length ak,.iface p t])) (by simp[results,results78,go_sem]) rfl ?_
  have u:=Ba aF.o ((dH _).chg.andThen bz) j.o
  have aZ:=Sd.defS (n:=bB) u.zero (λb e=>(dO u e).1) (b4.fr i.o.ch.size)
  obtain⟨rfl,l,r,bd,ab,ah⟩|⟨l,r,ba,bd,ab,aB,ah⟩:=ag.o
  ·exact o.ret ⟨_,.def0 c.o cG.o ab ah aq.o z,aZ⟩ (by rw[bd];simp)
  ·exact o.ret ⟨_,.defS c.o cG.o ab aB ah aq.o z,aZ⟩ (by rw[bd];simp)):Zp:=h
open E in
theorem Np{E}(f:Ps E w (k::R))(H:k.sym=sw):Calls prog 78 #[ge E.P] w (Ot E w (k::R) [k.sym,eu,[40],ig,[41],[61],d6] (GSt w)):=by
 have bl:M (Otp E w _ [k.sym,eu,[40],ig,[41],[61],d6] _ _ _ w):=.start f;have j:=Q f.nw.1;have c:=Q H;clear f H;go_enter func78,ntmps78;exact qar
theorem aR.qbo(h:Zp:=by
 rw[c.block g aG (λh=>aZ g h (J g (i0 K)))];exact bi):Zp:=h
open aR in
theorem Sd.chg{W Maa}(f:Sd W Maa v s)(c:Chg S W A)(aZ:∀b,S b->¬Maa b):Sd A Maa v s:=by
 cases f with
 |inS=>exact .inS
 |letS h=>exact .letS (h.chg c aZ)
 |rep h=>exact .rep (h.chg c aZ)
 |defS h J al=>
  refine .defS ⟨h.1,h.2.imp id ?_⟩ J (al.chg c aZ);exact qbn
 |outS h=>exact .outS (h.chg c aZ)
theorem Sd.mono{W Maa M'}(f:Sd W Maa v s)(h:∀b,Maa b->M' b):Sd W M' v s:=by
 cases f with
 |inS=>exact .inS
 |letS q=>exact .letS (q.mono h)
 |rep q=>exact .rep (q.mono h)
 |defS q a8 bE=>exact .defS q (λb e=>h b (a8 b e)) (bE.mono h)
 |outS q=>exact .outS (q.mono h)
theorem Sd.iface{W Maa}(f:Sd W Maa v s):∃T x,v=.iface T x:=by cases f<;>grind
theorem Sd.ch{E W}(f:Sd W (Fr n) v s)(c:Ch E W A)(h:E.P<n):Sd A (Fr n) v s:=f.chg c (λb e q=>by omega)
def GS2(w:World)(us:List Tok)(v:Value)(w':World):Prop:=∃s us1 c,us=us1++[c]/\PSm s us1/\c.sym=[59]/\Sd w' (Fr w.heap.size) v s
def StE(E:Pe)(w:World)(ts:List Tok)(e:Ending)(w':World):Prop:=
 (∃us ws v,e=.returned v/\M (ts=us++ws)/\M (dT E.t.length ts [eE]=dT E.t.length ws [eE])/\Ps E w' ws/\Ch E w w'/\GS2 w us v w')\/(∃p:Nat,e=Thr 2 p/\M (dT E.t.length ts [eE]=(p:Int))/\Ch E w w')
theorem ww{E W}(h:Ot E w ts [eE] (λ_ _ _=>False) e W):StE E w ts e W:=by
 obtain⟨_,_,_,_,_,_,_,_,h⟩|⟨q,e,h,c⟩:=h
 ·exact h.elim
 exact .inr ⟨q,e,h.o _,c⟩
theorem Otp.st{E W T}(z:Otp E w ts [eE] us T [eE] W)(h:GS2 w us v W):StE E w ts (.returned v) W:=.inl ⟨us,T,v,rfl,z.sp,z.wr [],z.ps,z.ch,h⟩
theorem pH{E}(f:Ps E w (k::R)){ax}(H:k.sym=ax){fn st}(aj:(ax=kIn/\fn=75)\/(ax=tO/\fn=76)\/(ax=tQ/\fn=77)\/(ax=sw/\fn=78))(aZ:∀W,Kept 0 0 w W->Calls prog fn #[ge E.P] W (Ot E W (k::R) st (GSt W)))(ah:fg eE ax=st++[[59],eE]):Calls prog 49 #[ge E.P] w (StE E w (k::R)):=by
 have a:M _:=lU f H (by obtain⟨h,_⟩|⟨h,_⟩|⟨h,_⟩|⟨h,_⟩:=aj<;>(rw[h];decide));have j:=Q f.nw.1
 have bl:M (Otp E w (k::R) [eE] [] (k::R) (st++[[59],eE]) w):=by
  have h:=(Otp.start (st:=[eE]) f).ruleK H ah;rw[List.append_nil]at h;exact h
 have bX:=Q aZ;clear f H ah aZ;obtain⟨rfl,rfl⟩|⟨rfl,rfl⟩|⟨rfl,rfl⟩|⟨rfl,rfl⟩:=aj
 all_goals
  go_enter func49,ntmps49
  go_upto_region 14 with (first|(go_at_call 48;refine yai a.o ?_;rintro e Z ⟨rfl,ad⟩)|((first|go_at_call 75|go_at_call 76|go_at_call 77|go_at_call 78);refine Otp.call (bX.o _ ad) bl.o ad (λ_ _ h=>h1 rfl (ww h)) ?_;rintro cM aw aM ao (i:M _) c3 ⟨bF,p,t⟩))
  have T:M (Sd _ (Fr _) _ _):=t.mono (λ_ q=>yan ad.size q)
  clear a bl c3 ad t bX
  go_wp2_with (go_at_call 82;refine Otp.call (eX i.o.ps xab) i.o ib (λ_ _ h=>h1 rfl (ww h)) ?_;rintro i1 V L bn o bz ⟨J,rfl,u,rfl⟩)
  go_ret
  exact o.st ⟨_,_,_,rfl,p,u,T.o.ch bz j.o⟩
theorem CO{E}(f:Ps E w (k::R))(H:k.sym=tP):Calls prog 49 #[ge E.P] w (StE E w (k::R)):=by
 have a:M _:=lU f H xab;have j:=Q f.nw.1;have bl:M (Otp E w _ [eE] _ _ _ w):=(Otp.start f).ruleK (R:=[tP,d6,[59],eE]) H;have c:=Q H;clear f H;go_enter func49,ntmps49;go_upto_region 14 with (first|(go_at_call 48;refine yai a.o ?_;rintro e Z ⟨rfl,ad⟩)|(go_at_call 79;refine bl.o.taken c.o ad ?_;rintro ao (i:M _) c3;unfold tkV)|(go_at_call 80;refine Otp.call (pG i.o.ps) i.o ib (λ_ _ h=>h1 rfl (ww h)) ?_;rintro ay aN aS a7 (r:M _) c4 ⟨b2,b,l⟩;obtain⟨m,cp,rfl⟩:=l.iface));have az:M _:=Sd.outS (k:=k) (l.fr i.o.ch.size);have aL:=Q b;clear a bl i ad c3 c4 l b;go_wp2_with (go_at_call 82;refine Otp.call (eX r.o.ps xab) r.o ib (λ_ _ h=>h1 rfl (ww h)) ?_;rintro i1 V L bn o bz ⟨J,rfl,u,rfl⟩);go_ret;exact o.st ⟨_,_,_,rfl,.outS c.o aL.o,u,az.o.ch bz j.o⟩
theorem CP{E}(f:Ps E w (k::R))(h:k.sym≠kIn/\k.sym≠tO/\k.sym≠tQ/\k.sym≠sw/\k.sym≠tP):Calls prog 49 #[ge E.P] w (StE E w (k::R)):=by
 have aa:∀x∈(k::R),TkC x:=by obtain⟨i,h⟩:=f;exact h.cl
 have bv:∀x∈mh,k.sym≠x->((cvT k).text==x)=false:=λx ar V=>yav (λe=>V ((kU (n:=E.t.length) aa ar).1 e));have ba:((cvT k).text==[105,110])=false:=bv _ xab h.1;have bu:((cvT k).text==[108,101,116])=false:=bv _ xab h.2.1;have co:((cvT k).text==[114,101,112,101,97,116])=false:=bv _ xab h.2.2.1;have bs:((cvT k).text==[100,101,102])=false:=bv _ xab h.2.2.2.1;have aZ:((cvT k).text==[111,117,116])=false:=bv _ xab h.2.2.2.2;have a:M (Calls prog 48 #[ge E.P] w λe D=>e=.returned (.agg #[h0 (cvT k).kind,dJ (cvT k).text,h0 ((cvT k).at_:Int)])/\Kept 0 0 w D):=ow f;have aF:M (∀W,Kept 0 0 w W->_):=λW ae=>rp (f.keep ae)
 have bC:M (dT E.t.length (k::R) [eE]=(vL E.t.length (k::R):Int)):=by
  show _=_;rw[fD xab]
  have aH:fg eE (hdS (k::R))=[]:=by
   show fg eE k.sym=_;unfold fg;rw[h3 rfl,h2 (show ¬k.sym=[105,110] from h.1),h2 (show ¬k.sym=[108,101,116] from h.2.1),h2 (show ¬k.sym=[114,101,112,101,97,116] from h.2.2.1),h2 (show ¬k.sym=[100,101,102] from h.2.2.2.1),h2 (show ¬k.sym=[111,117,116] from h.2.2.2.2)]
  rw[aH,List.nil_append,dT,ke];rfl
 clear aa bv f h;generalize cvT k=ct at*;go_enter func49,ntmps49;go_wp2_with (first|(go_at_call 48;refine yai a.o ?_;rintro e Z ⟨rfl,ad⟩)|(go_at_call 81;refine yai (aF.o _ ad) ?_;rintro e ao ⟨rfl,a5⟩));exact⟨rfl,.inr ⟨_,rfl,bC.o,(ad.trans a5).chg⟩⟩
theorem zT{E}(f:Ps E w (k::R)):Calls prog 49 #[ge E.P] w (StE E w (k::R)):=by
 by_cases z:k.sym=kIn
 ·exact pH f z (.inl ⟨rfl,rfl⟩) (λW ae=>Pn (f.keep ae) z) (i0 z)
 by_cases J:k.sym=tO
 ·exact pH f J (.inr (.inl ⟨rfl,rfl⟩)) (λW ae=>Nn (f.keep ae) J) (i0 J)
 by_cases al:k.sym=tQ
 ·exact pH f al (.inr (.inr (.inl ⟨rfl,rfl⟩))) (λW ae=>No (f.keep ae) al) (i0 al)
 by_cases bw:k.sym=sw
 ·exact pH f bw (.inr (.inr (.inr ⟨rfl,rfl⟩))) (λW ae=>Np (f.keep ae) bw) (i0 bw)
 by_cases bL:k.sym=tP
 ·exact CO f bL
 exact CP f ⟨z,J,al,bw,bL⟩
theorem Nq:(prog.info? 90).map (λi=>(i.zero,i.size,i.bytes))=some (some .nilIface,1,16):=by kernel_rfl
theorem wz:∃bS,prog.info? 90=some bS/\bS.zero=some .nilIface/\bS.size=1/\bS.bytes=16:=by
 have h:=Nq;simp_all
theorem qR(w){bE rest o a i1}(an:o.guard=none)(s x)
  (av:o.op=.call {callee:=.builtin .append,args:=#[s,x],argTypes:=#[53,53]})
  (v) (vs) (ai:a.eval s=v) (aW:w.ownsRow 0 90 1 v vs.length vs)
  (aG) (T) (y) (ar:a.eval x=hZ aG 1 1) (C:w.cell? ⟨aG,0,none⟩=some (.iface T y))
  (F:vs.length+1<=1000000)
  (h:∀g cap n D,n=(vs++[Value.iface T y]).length->D.ownsRow 0 90 1 (hZ g n cap) n (vs++[Value.iface T y])->Chg (λb=>v.ownBlock=some b) w D->(v.ownBlock=some g\/g=w.heap.size)->wpList prog bE i1 rest (a.put o.dst (hZ g n cap)) D):wpList prog bE i1 (o::rest) a w:=by
 obtain⟨bS,hi,ch,b6,ci⟩:=wz;refine wpList_append_lies w an s x _ av 0 90 _ _ 1 _ underlying53 hi ch b6 ci rfl xab v _ _ ai aW _ 1 1 [.iface T y] ar rfl ?_ ?_ xab (by unfold maxLen;omega) xaa yad _ rfl ?_
 ·grind[fL]
 ·intro u bd;simp at bd;obtain rfl:=bd;rfl
 exact xfp
def SdL(W:World)(Maa:Nat->Prop)(vs:List Value)(ss:List Sm):Prop:=vs.length=ss.length/\∀(j:Nat) (v:Value) (s:Sm),vs[j]? =some v->ss[j]? =some s->Sd W Maa v s
theorem SdL.snoc{W Maa}(f:SdL W Maa vs aI)(h:Sd W Maa v s):SdL W Maa (vs++[v]) (aI++[s]):=by
 exact xdb
def FZ(W:World)(b:Nat):Prop:=NoRow W b/\∀cur f,W.heap[b]?≠some (.cells cur 84 f)
theorem aS.qbo(h:Zp:=by
 rw[c.block g aG (λh=>(aZ g h).2 _ _ bi)];exact bi):Zp:=h
open aS in
theorem Sd.oth{W Maa}(f:Sd W Maa v s)(c:Chg S W A)(aZ:∀b,S b->FZ W b):Sd A Maa v s:=by
 have bm:∀b,S b->NoRow W b:=λb h=>(aZ b h).1;cases f with
 |inS=>exact .inS
 |letS h=>exact .letS (h.oth c bm)
 |rep h=>exact .rep (h.oth c bm)
 |defS h J al=>
  refine .defS ⟨h.1,h.2.imp id ?_⟩ J (al.oth c bm);exact qbn
 |outS h=>exact .outS (h.oth c bm)
theorem SdL.oth{W Maa}(f:SdL W Maa vs aI)(c:Chg S W A)(aZ:∀b,S b->FZ W b):SdL A Maa vs aI:=⟨f.1,λj v s z J=>(f.2 j v s z J).oth c aZ⟩
theorem SdL.ch{E W}(f:SdL W (Fr n) vs aI)(c:Ch E W A)(h:E.P<n):SdL A (Fr n) vs aI:=⟨f.1,λj v s z J=>(f.2 j v s z J).ch c h⟩
theorem F0{W}(f:W.ownsRow 0 90 1 sl n vs):∀b,sl.ownBlock=some b->FZ W b:=by
 intro b e;obtain⟨h,_⟩|⟨g,cap,bp,z,_,J,_⟩:=f.2
 ·rw[h]at e;cases e
 rw[z]at e;have a6:g=b:=by injection e
 subst a6;constructor
 ·intro a bO al;grind
 simp_all
theorem rz{W}(f:W.ownsRow 0 90 1 sl n vs)(c:Chg S W A)(aZ:∀b,sl.ownBlock=some b->¬S b):A.ownsRow 0 90 1 sl n vs:=by
 refine⟨f.1,f.2.imp id ?_⟩;exact xfg
theorem JV(h:PGm aI us){y c}(ai:PSm s y)(aj:c.sym=[59]):PGm (aI++[s]) (us++(y++[c])):=by
 induction h with
 |nil=>exact .cons ai aj .nil
 |@cons bq b e R c0 z J _ O=>
  have:=PGm.cons z J O;grind
theorem F1(h:PGm aI us):aI.length<=us.length:=by
 induction h<;>grind
theorem CQ{n}:dT n [] [eE]=-1:=by
 rw[dT,il xab,show fg eE pV++[]=[] from rfl,ke,h3 rfl]
def P5(t:List UInt8)(w:World)(e:Ending)(w':World):Prop:=
 (∃v vs ss,e=.returned v/\dT t.length (eK t) [eE]=-1/\PGm ss (eK t)/\w'.ownsRow 0 90 1 v vs.length vs/\(∀b,v.ownBlock=some b->w.heap.size+1<=b)/\SdL w' (Fr (w.heap.size+1)) vs ss/\Kept 0 0 w w')\/
 (∃p:Nat,e=Thr 2 p/\dT t.length (eK t) [eE]=(p:Int)/\Kept 0 0 w w')
theorem Nr(aG:g<w.heap.size)(bD:(Tl t (eK t)).length<=4001)(aD:∀(j:Nat) (k:PTk),(Tl t (eK t))[j]? =some k->w.cell? ⟨g,j*3,none⟩=some (h0 k.kind)/\w.cell? ⟨g,j*3+1,none⟩=some (dJ k.text)/\w.cell? ⟨g,j*3+2,none⟩=some (h0 k.at_)):Calls prog 19 #[hZ g (Tl t (eK t)).length cap] w (P5 t w):=by
 obtain⟨E,l⟩:∃E:Pe,E=⟨w.heap.size,g,cap,Tl t (eK t),t,w.heap.size+1⟩:=⟨_,rfl⟩
 have aL:=dE 0 0 w (.cells #[hZ g (Tl t (eK t)).length cap,h0 0] 87)
 have ae:M (Ps E (w.alloc (.cells #[hZ g (Tl t (eK t)).length cap,h0 0] 87)) (eK t)):=by
  obtain⟨aQ,aU,bN⟩:=eo w #[hZ g (Tl t (eK t)).length cap,h0 0] 87 (ib).chg (S:=λ_=>False) (λc=>c);subst l;refine⟨0,aQ 0,aQ 1,aU 1,λj k h=>?_,rfl,sD t _,bD,yae,Nat.lt_succ_of_lt aG,Nat.ne_of_lt aG,bN⟩;have aP:∀o,(w.alloc _).cell? ⟨g,o,none⟩=w.cell? _:=λo=>(aL.chg (S:=λ_=>False)).cell aG (λc=>c);show(w.alloc _).cell? ⟨g,_,none⟩=_/\(w.alloc _).cell? ⟨g,_,none⟩=_/\(w.alloc _).cell? ⟨g,_,none⟩=_;rw[aP,aP,aP];exact aD j k h
 have bS:M (E.P=w.heap.size/\E.t=t/\E.N=w.heap.size+1):=by rw[l];exact⟨rfl,rfl,rfl⟩
 have bg:=Q ae.o.len;have av:M ((w.alloc (.cells #[hZ g (Tl t (eK t)).length cap,h0 0] 87)).heap.size=w.heap.size+1):=by show _=_;simp
 have an:=Q aL;have V:(⟨E.P,0,none⟩:Addr)=⟨w.heap.size,0,none⟩:=by grind
 have bY:M (∀W k us,Ps E W (k::us)->Calls _ _ #[.pointer (some ⟨_,0,_⟩)] W _):=λW k us h=>by rw[<-V];exact zT h
 have a:M (∀W us,Ps E W _->Calls _ _ #[.pointer (some ⟨_,0,_⟩)] W λe D=>e=.returned (tkV (hdP t.length us))/\Kept 0 0 W _):=λW us h=>by rw[<-V,<-bS.o.2.1];exact ow h
 clear aG bD aD l aL V;generalize (Tl t _).length=aw at*;have ao:M (∀A,Ch E _ _->Kept 0 0 w A):=λA c=>Chg.kept an.o c (λb e=>ih bS.o.1);go_enter func19,ntmps19;go_wp2_with fail;go_loopg [4] (eK t).length (λm sl W=>∃(aI:List Sm) (vs:List Value) (us T:List Tok),T.length=m/\M (eK t=us++T)/\M (PGm aI us)/\M (W.ownsRow 0 90 1 sl vs.length vs)/\M (∀b,sl.ownBlock=some b->w.heap.size+1<=b)/\M (SdL W (Fr (w.heap.size+1)) vs aI)/\M (Ps E W T)/\M (Ch E (w.alloc (.cells #[hZ g aw cap,h0 0] 87)) W)/\M (dT t.length (eK t) [eE]=dT t.length T [eE]))
 case atStart=>exact⟨_,_,[],_,rfl,rfl,.nil,yau _ _,λb e=>(by cases e),⟨rfl,λj v s h=>(by cases h)⟩,ae,wq E _,rfl⟩
 case round=>
  obtain⟨aI,vs,us,T,aR,af,bV,au,ar,H,F,f,I⟩:=hrel;have aa:∀k∈T,TkC k:=by obtain⟨i,h⟩:=F.o;exact h.cl
  have L:=(vN (n:=t.length) aa).2.2.2.2;have X:M _:=a.o _ _ F.o;cases T with
  |nil=>
   have bR:(hdP t.length ([]:List _)).kind=0:=rfl;have K:M (eK t=us):=by grind
   have bC:M _:=I.o.trans CQ;clear aa L aR bY a;generalize hdP t.length _=ct at*;go_wp2_with (go_at_call 48;refine yai X.o ?_;rintro e Z ⟨rfl,ad⟩;unfold tkV);go_ret;exact .inl ⟨_,_,_,rfl,bC.o,it K.o bV.o,rz au.o (ad.chg (S:=λ_=>False)) (λ_ _ h=>h.elim),ar.o,H.o.oth (ad.chg (S:=λ_=>False)) (λ_ h=>h.elim),ao.o _ (f.o.andThen ad.chg)⟩
  |cons k ay=>
   have bR:¬(hdP t.length (k::ay)).kind=0:=λh=>by have:=L.1 h;cases this
   have cd:M (vs.length+1<=1000000):=by
    have z:=F1 bV.o;have J:=bg.o;have al:=H.o.1;rw[af.o]at J;simp at J;show _<=_;omega
   have bp:ay.length<gk:=by grind
   clear aa L aR a;generalize hdP t.length _=ct at*
   go_wp2_with (first
    |(go_at_call 48;refine yai X.o ?_;rintro e Z ⟨rfl,ad⟩;unfold tkV)
    |(go_at_call 49;refine yai (bY.o _ k _ (F.o.keep ad)) ?_;rintro e aA (⟨am,Y,aC,rfl,C,y,x,P,bE,u1,c5,ag,ab,cO,aj⟩|⟨p,rfl,y,P⟩);rotate_left;exact h1 rfl (Or.inr ⟨p,rfl,(by have h:=y.o;rw[bS.o.2.1]at h;exact I.o.trans h),ao.o aA ((f.o.andThen ad.chg).andThen P)⟩);replace ag:M _:=ag;obtain⟨i1,cI,rfl⟩:=aj.iface;have aT:=mr aA (.iface i1 cI) 90;have U:M _:=rz (rz au.o (ad.chg.andThen P) (λb e=>ip (ar.o b e) bS.o.1)) ((dE 0 0 _ (.cells #[.iface i1 cI] 90)).chg (S:=λ_=>False)) (λ_ _ h=>h.elim))
    |(at_builtin;refine qR _ rfl _ _ rfl _ _ (by rfl) U.o _ _ _ (by rfl) aT cd.o ?_))
   intro g9 cap9 n9 bn b4 ca bO cn;have aL:=dE 0 0 aA (.cells #[.iface i1 cI] 90);have ep:E.P<w.heap.size+1:=ih bS.o.1
   have r:Ch E _ _:=ad.chg.andThen P;have aW:w.heap.size+1<=Z.heap.size:=by have z:=av.o;have J:=f.o.size;have al:=ad.size;omega
   have ap:M (SdL bn _ _ _):=((((H.o.ch r ep).oth (aL.chg (S:=λ_=>False)) (λ_ h=>h.elim)).oth bO (F0 U.o)).snoc (((aj.mono (λ_ q=>yan aW q)).oth (aL.chg (S:=λ_=>False)) (λ_ h=>h.elim)).oth bO (F0 U.o)))
   have ai:M _:=(x.keep aL).far bO (λb e=>ip (ar.o b e) bS.o.2.2);have O:M (Ch E _ _):=((f.o.andThen r).andThen aL.chg).new bO (λb h e=>ip (ar.o b e) av.o)
   have aE:M (∀b,(hZ _ n9 cap9).ownBlock=some b->w.heap.size+1<=b):=λb e=>by
    have a6:g9=b:=by injection e
    subst a6
    obtain q|q:=cn
    ·exact ar.o _ q
    ·have z:=P.size;omega
   have ak:M _:=JV bV.o ab cO;have aq:M (dT t.length (eK t) [eE]=dT t.length Y [eE]):=by show _=_;have h:=y.o;rw[bS.o.2.1]at h;exact I.o.trans h
   have u:M (bn.ownsRow 0 90 1 (hZ g9 n9 cap9) (vs++[Value.iface i1 cI]).length (vs++[Value.iface i1 cI])):=by
    have e:n9=(vs++[Value.iface i1 cI]).length:=by rw[b4];simp
    rw[<-e];exact ca
   have ah:M (ay.length+1=am.length+Y.length/\1<=am.length):=by
    have h:=congrArg List.length C.o;have J:am.length=u1.length+1:=by rw[ag.o];simp
    rw[yak,yap]at h;exact h1 xaa xaa
   have aV:Y.length<gk:=ih ah.o
   clear ca bO cn aL aj x P r b4 U aT y ab cO aW ep ad bR;go_wp2_with fail;go_roundg Y.length
   case measure=>exact aV
   case rel=>exact⟨_,_,_,_,rfl,by show _=_;rw[af.o,C.o,ag.o];simp,ak,u,aE,ap,ai,O,aq⟩
theorem F2:∀(ts:List PTk) (j:Nat) (k:PTk),ts[j]? =some k->(ptF ts)[j*3]? =some (h0 k.kind)/\(ptF ts)[j*3+1]? =some (dJ k.text)/\(ptF ts)[j*3+2]? =some (h0 k.at_)
 |[],j,k,h=>by simp at h
 |x::r,0,k,h=>by
  simp at h
  subst h
  exact⟨rfl,rfl,rfl⟩
 |x::r,j+1,k,h=>by
  have J:r[j]? =some k:=by grind
  obtain⟨a,b,c⟩:=F2 r j k J
  have e:∀o,(ptF (x::r))[(j+1)*3+o]? =(ptF r)[j*3+o]?:=λo=>by
   rw[show(j+1)*3+o=(j*3+o)+3 by omega]
   rfl
  exact⟨(e 0).trans a,(e 1).trans b,(e 2).trans c⟩
theorem pI{W ts}(f:PkR W B (hZ g n cap) ts):n=ts.length/\g<W.heap.size/\∀(j:Nat) (k:PTk),ts[j]? =some k->W.cell? ⟨g,j*3,none⟩=some (h0 k.kind)/\W.cell? ⟨g,j*3+1,none⟩=some (dJ k.text)/\W.cell? ⟨g,j*3+2,none⟩=some (h0 k.at_):=by
 obtain⟨h,_⟩|⟨aJ,ax,bp,z,_,J,_,_,_,bL⟩:=f.2
 ·cases h
 cases z;have aG:g<W.heap.size:=by grind
 refine⟨rfl,aG,λj k h=>?_⟩;obtain⟨a,b,c⟩:=F2 _ j k h
 have cv:∀(o:Nat) (v:Value),(ptF _)[o]? =some v->W.cell? ⟨g,o,none⟩=some v:=λo v aD=>by
  rw[<-bL]at aD
  have e:=aD
  rw[List.getElem?_take]at e
  grind[World.cell?]
 grind
def dcM(s:List UInt8):Int:=(s.length:Int)-((fh s).countP (· ==46):Nat)
theorem P6(s w)(V:s.length<=1048576):Calls prog 51 #[dJ s] w λe D=>e=.returned (h0 (dcM s))/\D=w:=by
 have h:=si (fh s) w (λx ar=>by
  unfold fh at ar
  obtain⟨b,_,rfl⟩:=List.mem_map.1 ar
  have:=UInt8.toNat_lt b
  omega) (by rw[pF];exact V)
 rw[xG,pF]at h;exact h
theorem zU{G}(h:my G):G.countP dig+G.countP (· ==46)=G.length:=by
 obtain⟨p,h⟩:=h
 have:∀x∈G,(x==46)=!(dig x):=λx ar=>by
  obtain⟨i,hi,rfl⟩:=List.getElem_of_mem ar
  have e:G.getD i 0=G[i]:=by simp_all
  by_cases c:G[i]=46
  ·rw[c];rfl
  ·have:=h.digit i hi xaa
   simp_all
 rw[List.countP_congr (p:=(· ==46)) (q:=λa=>decide (¬dig a=true)) (λx ar=>by grind)];exact(List.length_eq_countP_add_countP _).symm
theorem Bb{W ts}(f:PkR W B v ts):∃a cap,v=.slice a ts.length cap:=by
 exact xgu
def fnE(st:LSt)(s:List UInt8)(n:Nat):Option (List Tok×Ex):=match d8 st.names s with
 |some (.fn _ ps body)=>if ps.length=n then some (ps,body)else none
 |_=>none
def FoO(E:Tqe)(w:World)(r:Option (List Tok×Ex))(p:Nat)(e:Ending)(w':World):Prop:=
 Kept 0 0 w w'/\match r with
  |none=>e=Thr 3 (p:Nat)
  |some (ps,body)=>∃a cap T x,e=.returned (.agg #[.slice a ps.length cap,.iface T x])/\PkR w 0 (.slice a ps.length cap) (ps.map cvT)/\(∀b,(Value.slice a ps.length cap).ownBlock=some b->b<E.N)/\Nd w (λb=>b<E.N) (.iface T x) body/\(ps.map (·.text)).Nodup/\ENk body/\∀p∈ps,p.sym≠[]/\p.text≠[]
theorem nj{E st}(h:Tq E ρ w st aO G){t}(az:t.sym≠[])(p a1 n1 c1):
  Calls prog 164 #[ge E.T,.agg #[h0 p,.slice a1 n1 c1,h0 (cvT t).kind,dJ (cvT t).text,h0 ((cvT t).at_:Int)]] w (FoO E w (fnE st t.text n1) t.pos):=by
 obtain⟨u1,u3,Y,bm,am,ax,C⟩:=h;rw[jU az];obtain⟨ts,ap,J⟩:=t;simp only at az⊢;obtain⟨F,a0,bo⟩:=C.f;have bo:=bo J;have af:=dE 0 0 w (.cells #[h0 p,.slice a1 n1 c1,h0 (eV J),dJ J,h0 ap] 203);have ad:=af.trans (dE 0 0 _ (.cells #[.slice none 0 0,.nilIface] 173));have bu:=dZ ad C.lt C.t2;have aV:=C.lt;have LK:∀W,Kept 0 0 w W->(Instr.lookup 99 _ _ _).run _ W=.ok _ W:=λW k=>qY (a0.chg (k.chg (S:=λ_=>False)) (λc=>c)) underlying99 underlying9 (ET W) J;have f:=LK _ ad.drew;have i:=LK _ (ad.trans (dE 0 0 _ (.cells #[.slice none 0 0,.nilIface] 173))).drew;have ay:=Q ad;clear LK af ax az;generalize eV _=i1 at*;have ah:=eo w (A:=(w.alloc _).alloc (.cells #[.slice none 0 0,.nilIface] 173)) #[h0 p,.slice a1 n1 c1,h0 i1,dJ J,h0 ap] 203 (S:=λ_=>False) (dE 0 0 _ _).chg (λc=>c);have aW:=eo (w.alloc (.cells #[h0 p,.slice a1 n1 c1,h0 i1,dJ J,h0 ap] 203)) #[.slice none 0 0,.nilIface] 173 (ib).chg (S:=λ_=>False) (λc=>c);have I:((w.alloc _).alloc _).cell? _=some (.slice _ _ _):=ah.1 1;have L:((w.alloc _).alloc _).cell? _=some (dJ _):=ah.1 3;have O:((w.alloc _).alloc _).cell? _=some (h0 _):=ah.1 4;have P:=ah.2.2;have b6:(w.alloc (.cells #[h0 p,.slice a1 n1 c1,h0 i1,dJ J,h0 ap] 203)).heap.size=w.heap.size+1:=by simp
 rw[b6]at aW;have j:((w.alloc _).alloc _).cell? _=some (.slice _ 0 0):=aW.1 0;have o:((w.alloc _).alloc _).cell? _=some .nilIface:=aW.1 1;have y:=aW.2.1 0;have z:=aW.2.1 1;have u:=aW.2.2;have l:=yaj aV ad.size;clear ah aW b6
 have key:(F J=none/\fnE st J n1=none)\/(∃ps body sl T x,F J=some (.agg #[sl,.iface T x])/\PkR w 0 sl (ps.map cvT)/\(∀b,sl.ownBlock=some b->b<E.N)/\Nd w (λb=>b<E.N) (.iface T x) body/\(ps.map (·.text)).Nodup/\ENk body/\(∀p∈ps,p.sym≠[]/\p.text≠[])/\fnE st J n1=if ps.length=n1 then some (ps,body)else none):=by
  unfold fnE;cases bA:d8 st.names J with
  |none=>rw[bA]at bo;exact .inl ⟨bo,rfl⟩
  |some b=>
   rw[bA]at bo;cases b with
   |val bb v=>exact .inl ⟨bo,rfl⟩
   |fn bb ps body=>
    obtain⟨sl,T,x,bg,a8,bE,cx,bL,b9,H⟩:=bo;exact .inr ⟨_,_,_,T,x,bg,a8,bE,cx,bL,b9,H,rfl⟩
 generalize fnE _ _ _=r at key⊢;clear C a0 bo aV ad;obtain⟨K,rfl⟩|⟨ps,body,sl,T,x,K,q⟩:=key
 ·rw[K]at f i;simp only[Option.getD_none,Option.isSome_none]at f i;clear K;exact xcq
 obtain⟨a8,bE,cx,bL,b9,H,a6⟩:=q;obtain⟨a,cap,rfl⟩:=Bb a8;rw[K]at f i;rw[List.length_map]at f i a8 bE;simp only[Option.getD_some,Option.isSome_some]at f i;clear K;have b5:M _:=h1 a8 (h1 bE (h1 cx (h1 bL (h1 b9 H))));clear a8 bE cx bL b9 H;by_cases c:ps.length=n1
 ·rw[h3 c]at a6;subst a6;have aB:M (∀e D,Kept 0 0 w D->e=.returned (.agg #[.slice a ps.length cap,.iface T x])->FoO E w (some (ps,body)) ap e _):=λe D k bl=>⟨k,a,_,T,x,bl,b5.o⟩
  have aE:=Q c;clear b5 c;generalize ps.length=m at*;obtain rfl:n1=m:=aE.o.symm;have aj:M (w.heap.size<=w.heap.size+1):=Nat.le_succ _;go_enter func164,ntmps164;go_upto_region 1 with fail;change Code.wp _ _ _ _ ((w.alloc (.cells _ 203)).alloc (.cells _ 173));generalize ((w.alloc _).alloc _)=Z at*;generalize w.heap.size+1=ae at*;go_region
  all_goals
   go_wp2
   refine yax (v:=.agg #[.slice a n1 cap,.iface T x]) (by simp[results,results164,go_sem,j,o,u]) rfl ?_
   exact aB.o _ _ (((iz w _ (iz w _ ay.o _ _ _ aj.o) _ _ _ aj.o).trans (dE 0 0 _ _)).drew) rfl
 rw[h2 c]at a6;subst a6;have c2:(ps.length !=(n1:Int))=true:=by simp;omega
 clear b5 c;generalize ps.length=m at*;exact xcq
theorem F3(s):kj [] s=none:=rfl
theorem qo(a n)(l:Loc)(s):kj ((a,n)::l) s=if a=s then some n else kj l s:=by
 unfold kj;grind
theorem F4(l:Loc)(a)(n:Nat)(s)(h:kj l a=none):kj (l++[(a,n)]) s=if s=a then some n else kj l s:=by
 induction l with
 |nil=>
  rw[List.nil_append,qo,F3];grind
 |cons x r O=>
  obtain⟨b,m⟩:=x;rw[qo]at h;split at h<;>simp_all[qo]<;>grind
theorem F5(h:a∉ps):kj (ps.zip ys) a=none:=by
 induction ps generalizing ys with
 |nil=>simp[kj]
 |cons b r O=>
  cases ys<;>simp_all[kj]<;>grind
def zV(ps:List (List UInt8))(ys:List Nat)(k:Nat):List UInt8->Option Value:=λs=>(kj ((ps.take k).zip (ys.take k)) s).map λn:Nat=>Value.int .i64 (n:Int)
theorem CR(V:ps.Nodup){k}(z:k<ps.length)(J:k<ys.length):upF (zV ps ys k) (ps.getD k []) (h0 (ys.getD k 0:Nat))=zV ps ys (k+1):=by
 funext s;have K:ps.getD k []=ps[k]:=by simp_all
 have a6:ys.getD k 0=ys[k]:=by simp_all
 have a:ps[k]∉ps.take k:=λq=>by
  have al:=List.Nodup.sublist (List.take_sublist (k+1) _) V
  grind[yas]
 unfold upF zV;rw[yas z,yas J,List.zip_append (by grind),K,a6];show _=(kj ((ps.take k).zip (ys.take k)++[(ps[k],ys[k])]) s).map _;grind[F4,F5]
theorem Tq.recol{E W st q}(h:Tq E ρ W st aO G)(aC:ρ q=0)(an:q<W.heap.size)(bb:E.N<=q):Tq E (lI ρ q 10) W st aO G:=by
 obtain⟨u1,u3,Y,bm,am,ax,C⟩:=h
 have a:∀b c,ρ b=c->c≠0->lI _ q 10 b=c:=λb c e aj=>by
  unfold lI
  rw[h2 (λa6=>aj (by rw[<-e,a6];exact aC))]
  exact e
 refine⟨_,_,_,_,_,⟨ax.b,ax.i,ax.o,a _ _ ax.rP xab,λb e=>a _ _ (ax.rR b e) xab,λb e=>a _ _ (ax.ri b e) xab,λb e=>a _ _ (ax.ro b e) xab,ax.e1,ax.e3⟩,
  ⟨C.toTcC,C.k,C.x,C.v,C.f,λy aY=>⟨(C.l y aY).1,?_,(C.l y aY).2.2⟩,a _ _ C.rT xab,a _ _ C.rV xab,a _ _ C.rF xab,λb e=>a _ _ (C.rk b e) xab,λb e=>a _ _ (C.rx b e) xab,λb I=>?_,λb I=>?_,C.sz⟩⟩
 ·obtain e|⟨r,K,a6,ag⟩:=(C.l y aY).2.1
  ·exact .inl e
  exact .inr ⟨r,K,a _ _ a6 xab,ag⟩
 ·unfold lI;rw[h2 xaa];exact C.r0 b I
 unfold lI;rw[h2 xaa];exact C.rN b I
theorem Tq.count{E W st}(h:Tq E ρ W st aO G)(n:Nat):Tq E ρ (W.setCell ⟨E.T,3,none⟩ (h0 n)) {st with calls:=n} aO G/\Sco ρ W ρ (W.setCell ⟨E.T,3,none⟩ (h0 n)):=by
 obtain⟨u1,u3,Y,bm,am,ax,C⟩:=h;have c2:Chg (λb=>b=E.T) W (W.setCell ⟨_,3,_⟩ (h0 n)):=dV _ _ _ _ rfl;exact⟨⟨_,_,_,_,_,ax.chg c2 (λb _ q=>by rw[q,C.rT];decide) (λ_ _=>rfl),TqT.own C c2 (λb _ q=>.inl (it q C.rT)) (λ_ _=>rfl) (λb I=>C.rN b (yan c2.size I)) (C.toTcC.set3 n) (fH C.k c2 (λb e q=>by have:=C.rk b e;have J:=C.rT;grind)) C.rk (fH C.x c2 (λb e q=>by have:=C.rx b e;have J:=C.rT;grind)) C.rx C.l⟩,Sco.of c2 (λb _ q=>by rw[q,C.rT];decide) (λ_ _=>rfl)⟩
end
section
attribute[local go_sem] dI dG dF gh gj gn mkF run_makeMap
def ClO(E:Tqe)(ρ:Nat->Nat)(w:World)(st:LSt)(L:List TkV)(xs ys:List Nat)(t:Tok)(e:Ending)(w':World):Prop:=
 (500<=st.calls/\e=Thr 5 (t.pos:Nat)/\Chg (λb=>ρ b≠0) w w')\/
 (st.calls<500/\fnE st t.text ys.length=none/\e=Thr 3 (t.pos:Nat)/\Chg (λb=>ρ b≠0) w w')\/
 (st.calls<500/\∃ps body T x q ρ',fnE st t.text ys.length=some (ps,body)/\e=.returned (.tuple #[])/\Tq E ρ' w' {st with calls:=st.calls+1} (⟨.iface T x,.map (some q),⟨body,(ps.map (·.text)).zip ys,false⟩⟩::L) xs/\Sco ρ w ρ' w')
theorem bR.qcj(h:Zp:=by
 exact⟨rfl,aG.o _ _ (.inl ⟨aJ.o,rfl,bV.o.chg⟩)⟩):Zp:=h
open bR in
theorem Po{E ρ st aO G}(h:Tq E ρ w st aO G)(ab:aO.length<=50000000)(aj:st.calls<=500){t}(az:t.sym≠[])(p a1 c1){ys a2 c2}(y:OfR w ρ (.slice a2 ys.length c2) ys)(aR:ys.length<=10000000):
  Calls prog 161 #[ge E.T,.agg #[h0 p,.slice a1 ys.length c1,h0 (cvT t).kind,dJ (cvT t).text,h0 ((cvT t).at_:Int)],.slice a2 ys.length c2] w (ClO E ρ w st aO G ys t):=by
 have bk:M (∀W n,Tq E ρ W {st with calls:=n} aO G->Calls prog 164 #[ge E.T,.agg #[h0 p,.slice a1 ys.length c1,h0 (cvT t).kind,dJ (cvT t).text,h0 ((cvT t).at_:Int)]] W (FoO E W (fnE st t.text ys.length) t.pos)):=λW n an=>nj an az p a1 ys.length c1
 have aG:M (∀e D,((500<=st.calls/\e=Thr 5 (t.pos:Nat)/\Chg (λb=>ρ b≠0) w D)\/
  (st.calls<500/\fnE st t.text ys.length=none/\e=Thr 3 (t.pos:Nat)/\Chg (λb=>ρ b≠0) w D)\/
  (st.calls<500/\∃ps body T x q ρ',fnE st t.text ys.length=some (ps,body)/\e=.returned (.tuple #[])/\Tq E ρ' D {st with calls:=st.calls+1} (⟨.iface T x,.map (some q),⟨body,(ps.map (·.text)).zip ys,false⟩⟩::aO) G/\Sco ρ w ρ' D))->ClO E ρ w st aO G ys t e D):=λ_ _ k=>k
 generalize bL:ClO E ρ w st aO G ys t=bv at aG⊢;clear bL;rw[jU az]at bk⊢;obtain⟨ts,ap,J⟩:=t;simp only at bk aG⊢;clear az;obtain⟨m,aT⟩:∃m,m=ys.length:=⟨_,rfl⟩
 rw[<-aT]at bk aG y aR⊢;have O:=Q aT;clear aT;generalize eV J=i1 at bk⊢
 have bG:M (∀ps body,fnE st J m=some (ps,body)->ps.length=m):=λps body e=>by
  unfold fnE at e
  cases bi:d8 st.names J with
  |none=>rw[bi]at e;cases e
  |some b=>
   rw[bi]at e
   cases b with
   |val _ _=>cases e
   |fn _ R br=>
    simp only at e
    by_cases c:R.length=m
    ·rw[h3 c]at e;cases e;exact c
    ·rw[h2 c]at e;cases e
 generalize fnE st J m=fr at bk aG bG;have af:=dE 0 0 w (.cells #[h0 p,.slice a1 m c1,h0 i1,dJ J,h0 ap] 203);obtain⟨L,_,U⟩:=eo w #[h0 p,.slice a1 m c1,h0 i1,dJ J,h0 ap] 203 (ib).chg (S:=λ_=>False) (λc=>c);have z:=h.keep af;have bf:=y.keep af;have bV:=Q af;have bH:(w.alloc (.cells #[h0 p,.slice a1 m c1,h0 i1,dJ J,h0 ap] 203)).cell? ⟨w.heap.size,0,none⟩=some (h0 p):=L 0;have n1:(w.alloc (.cells #[h0 p,.slice a1 m c1,h0 i1,dJ J,h0 ap] 203)).cell? ⟨w.heap.size,1,none⟩=some (.slice a1 m c1):=L 1;have aI:(w.alloc (.cells #[h0 p,.slice a1 m c1,h0 i1,dJ J,h0 ap] 203)).cell? ⟨w.heap.size,2,none⟩=some (h0 i1):=L 2;have aE:(w.alloc (.cells #[h0 p,.slice a1 m c1,h0 i1,dJ J,h0 ap] 203)).cell? ⟨w.heap.size,3,none⟩=some (dJ J):=L 3;have S:(w.alloc (.cells #[h0 p,.slice a1 m c1,h0 i1,dJ J,h0 ap] 203)).cell? ⟨w.heap.size,4,none⟩=some (h0 ap):=L 4;have cd:E.T≠w.heap.size:=ih h.t0.2
 have r:M (Tq E ρ (w.alloc (.cells #[h0 p,.slice a1 m c1,h0 i1,dJ J,h0 ap] 203)) st aO G):=z;have V:M (OfR (w.alloc (.cells #[h0 p,.slice a1 m c1,h0 i1,dJ J,h0 ap] 203)) ρ (.slice a2 m c2) ys):=bf;have aV:=z.t0.2
 have co:(w.alloc (.cells #[h0 p,.slice a1 m c1,h0 i1,dJ J,h0 ap] 203)).cell? ⟨E.T,3,none⟩=some (h0 st.calls)/\(w.alloc (.cells #[h0 p,.slice a1 m c1,h0 i1,dJ J,h0 ap] 203)).frozen? ⟨E.T,3,none⟩=false:=by
  obtain⟨u1,u3,Y,bm,am,ax,C⟩:=z;exact⟨C.t3,C.fz 3⟩
 obtain⟨co,bP⟩:=co;clear L h y af z bf;go_enter func161,ntmps161;go_upto_region 1 with fail;change Code.wp _ _ _ _ (w.alloc (.cells #[h0 p,.slice a1 m c1,h0 i1,dJ J,h0 ap] 203));generalize (w.alloc (.cells #[h0 p,.slice a1 m c1,h0 i1,dJ J,h0 ap] 203))=aa at*;generalize av:w.heap.size=bh at*;have ay:=Q av;clear av;obtain d|d:=Nat.lt_or_ge st.calls 500
 ·have aW:((st.calls:Int)==500)=false:=yam xaa;have bN:IntKind.i64.wrap ((st.calls:Int)+1)=(st.calls:Int)+1:=by rw[IntKind.wrap_i64];omega
  obtain⟨bb,cp⟩:=Tq.count r.o (st.calls+1);have aB:M (Tq E ρ (aa.setCell ⟨E.T,3,none⟩ (h0 ((st.calls:Int)+1))) {st with calls:=st.calls+1} aO G/\Sco ρ w ρ (aa.setCell ⟨E.T,3,none⟩ (h0 ((st.calls:Int)+1)))):=⟨bb,(Sco.kept bV.o).trans cp⟩
  clear bb cp;have aK:M _:=bk.o _ _ aB.o.1;cases fr with
  |none=>
   go_wp2_with (go_at_call 164;refine yai aK.o ?_;rintro e ao ⟨a5,rfl⟩;exact h1 rfl (aG.o _ _ (.inr (.inl ⟨d,rfl,rfl,aB.o.2.bad (a5.chg)⟩))))
  |some aX=>
   obtain⟨ps,body⟩:=aX;go_upto_region 5 with (go_at_call 164;refine yai aK.o ?_;rintro e ao ⟨(i:M _),al,ak,F,aP,rfl,(cA:M _)⟩);have bD:=bG.o ps body rfl;have b0:=i.o.trans (dE 0 0 ao (.cells #[.slice al ps.length ak,.iface F aP] 173));obtain⟨L,_,U⟩:=eo ao #[.slice al ps.length ak,.iface F aP] 173 (ib).chg (S:=λ_=>False) (λc=>c);have aZ:(ao.alloc (.cells #[.slice al ps.length ak,.iface F aP] 173)).cell? ⟨ao.heap.size,0,none⟩=some (.slice al ps.length ak):=L 0;have bz:(ao.alloc (.cells #[.slice al ps.length ak,.iface F aP] 173)).cell? ⟨ao.heap.size,1,none⟩=some (.iface F aP):=L 1;have l:M (Tq E ρ (ao.alloc (.cells #[.slice al ps.length ak,.iface F aP] 173)) {st with calls:=st.calls+1} aO G/\Sco ρ w ρ (ao.alloc (.cells #[.slice al ps.length ak,.iface F aP] 173))):=⟨Tq.keep aB.o.1 b0,aB.o.2.trans (Sco.kept b0)⟩
   obtain⟨aS,bO,bc,a8,bS,bd⟩:=cA.o;have g:M (PkR (ao.alloc (.cells #[.slice al ps.length ak,.iface F aP] 173)) 0 (.slice al ps.length ak) (ps.map cvT)/\Nd (ao.alloc (.cells #[.slice al ps.length ak,.iface F aP] 173)) (λb=>b<E.N) (.iface F aP) body):=⟨aS.keep b0,bc.keep b0⟩
   have aw:M ((ps.map (·.text)).Nodup/\ENk body/\∀p∈ps,p.sym≠[]/\p.text≠[]):=⟨a8,bS,bd⟩
   have ai:M (OfR (ao.alloc (.cells #[.slice al ps.length ak,.iface F aP] 173)) ρ (.slice a2 m c2) ys):=OfR.sco V.o ((Tq.count r.o (st.calls+1)).2.trans (Sco.kept b0));have ae:=U;clear b0 L U aS bO bc a8 bS bd cA i aK bk aB r V bH n1 aI aE S co bP bG;change Code.wp _ _ _ _ (ao.alloc (.cells #[.slice al ps.length ak,.iface F aP] 173));generalize (ao.alloc (.cells #[.slice al ps.length ak,.iface F aP] 173))=a7 at*;generalize ao.heap.size=fb at*;rw[bD]at aZ g⊢;have j:=Q bD;clear bD;have Z:=dE 0 0 a7 (.map #[] 0);have bI:=dZ Z ae aZ;have bs:=dZ Z ae bz;have bo:M (Mp (a7.alloc (.map #[] 0)) a7.heap.size (zV (ps.map (·.text)) ys 0)):=Mp.new a7;have a:=Q Z;have bA:a7.heap.size<(a7.alloc (.map #[] 0)).heap.size:=by simp
   have d5:fb≠a7.heap.size:=xaa;clear aZ bz Z;go_upto_region 7 with fail;change Code.wp _ _ _ _ (a7.alloc (.map #[] 0));generalize (a7.alloc (.map #[] 0))=aA at*;generalize bl:a7.heap.size=q at*;have v:=Q bl;clear bl;go_loopw [33] (λbF A=>∃k:Nat,k<=m/\bF=h0 k/\M (Mp A q (zV (ps.map (·.text)) ys k)/\Chg (λb=>b=q) aA A)) (λbF _=>m-(intOf bF).toNat)
   case atStart=>exact⟨0,yad,rfl,bo.o,⟨rfl,rfl,rfl,yac,λ_ _ _=>rfl⟩⟩
   case round=>
    obtain⟨k,H,rfl,au⟩:=hrel;by_cases cz:k<m
    ·have f:Kept 0 0 a7 wr:=by
      obtain⟨_,c⟩:=au.o;exact⟨c.os.trans a.o.os,c.tape.trans a.o.tape,c.output.trans a.o.output,yan a.o.size c.size,λb I bR=>(c.block b (yaj I a.o.size) (λe=>by have e:=e;have:=v.o;omega)).trans (a.o.block b I bR)⟩
     have d2:k<ps.length:=ih j.o
     obtain⟨aq,rfl⟩:∃aq,al=some ⟨aq,0,none⟩:=by
      obtain⟨K,a6⟩|⟨aY,cap',bp,K,_⟩:=g.o.1.2
      ·rw[List.length_map,j.o]at a6;omega
      injection K with ag _ _;exact⟨aY,ag⟩
     obtain⟨aN,rfl⟩:∃aN,a2=some ⟨aN,0,none⟩:=by
      obtain⟨K,a6⟩|⟨aY,cap',bp,K,_⟩:=ai.o.1.2
      ·have:=O.o;omega
      injection K with ag _ _;exact⟨aY,ag⟩
     obtain⟨_,bJ,aD⟩:=pI (g.o.1.keep f);obtain⟨b1,bw,p2⟩:=aD k (cvT ps[k]) (by rw[List.getElem?_map,yal d2];rfl);have ac:=((OfR.keep ai.o f).cells.2 k cz)
     have bu:=(dO (OfR.keep ai.o f).1 (k:=aN) rfl).2;have aF:=jU (aw.o.2.2 ps[k] (List.getElem_mem d2)).1;rw[aF]at b1 bw p2;simp only at b1 bw p2
     have d4:(ps.map (·.text)).getD k []=ps[k].text:=by
      rw[yah,List.getElem?_map,yal d2];rfl
     have bY:M _:=CR (ys:=ys) aw.o.1 (k:=k) (by rw[List.length_map];exact d2) (ih O.o);rw[d4]at bY;have aQ:=Q au.o;clear au aF d4 aD f;generalize ps[k].text=u at*;generalize eV u=bE at*;generalize ps[k].pos=aU at*;generalize ys.getD k 0=bB at*;have aL:=dE 0 0 wr (.cells #[h0 bE,dJ u,h0 aU] 84);have a9:(wr.alloc (.cells #[h0 bE,dJ u,h0 aU] 84)).cell? ⟨wr.heap.size,1,none⟩=some (dJ u):=(eo wr #[h0 bE,dJ u,h0 aU] 84 (ib).chg (S:=λ_=>False) (λc=>c)).1 1;have bC:=dZ aL bu ac;obtain⟨o,ar,(bq:M _)⟩:=sG (P:=prog) (w:=(wr.alloc (.cells #[h0 bE,dJ u,h0 aU] 84)).drew) (aQ.o.1.chg (aL.drew.chg (S:=λ_=>False)) (λc=>c)) underlying98 underlying9 u (h0 bB);have ep:M _:=aQ.o.2.andThen ((aL.drew.chg (S:=λb=>b=q)).andThen (nG (aQ.o.1.chg (aL.drew.chg (S:=λ_=>False)) (λc=>c)) o));clear aL;go_upto_region 9 with fail;change Code.wp _ _ _ _ (wr.alloc (.cells #[h0 bE,dJ u,h0 aU] 84));generalize (wr.alloc (.cells #[h0 bE,dJ u,h0 aU] 84))=cI at*;go_region
     all_goals go_wp2_with fail
     all_goals exact⟨⟨k+1,by omega,by go_num,iv bY.o bq.o,ep.o⟩,by simp[intOf];omega⟩
    obtain rfl:k=m:=xaa
    have f:Kept 0 0 a7 wr:=by
     obtain⟨_,c⟩:=au.o;exact⟨c.os.trans a.o.os,c.tape.trans a.o.tape,c.output.trans a.o.output,yan a.o.size c.size,λb I bR=>(c.block b (yaj I a.o.size) (λe=>by have e:=e;have:=v.o;omega)).trans (a.o.block b I bR)⟩
    have cf:=(au.o.2.cell (p:=⟨fb,1,none⟩) (Nat.lt_trans ae bA) d5).trans bs;have aH:=Tq.keep l.o.1 f
    have bR:ρ q=0/\E.N<=q:=by
     obtain⟨_,_,_,_,_,_,C⟩:=l.o.1;have:=v.o;exact⟨C.rN q xaa,ih C.sz⟩
    have bx:=au.o.1.lt;have bg:=aH.recol bR.1 bx bR.2
    have be:zV (ps.map (·.text)) ys k=λs=>(kj ((ps.map (·.text)).zip ys) s).map λn:Nat=>Value.int .i64 (n:Int):=by
     unfold zV;rw[yao (by rw[List.length_map,j.o];exact yac),yao (by rw[<-O.o];exact yac)]
    have aM:PrM wr (lI ρ q 10) (.map (some q)) ((ps.map (·.text)).zip ys):=.inr ⟨q,rfl,lj _ _ _,iv be au.o.1⟩;have bj:M _:=EV bg ab (g.o.2.keep f) aw.o.2.1 aM;have ah:M (Sco ρ w (lI ρ q 10) wr):=⟨(l.o.2.trans (Sco.kept f)).chg,nN (ip l.o.2.chg.size v.o)⟩
    clear aH bg aM be bR f au;go_wp2_with (go_at_call 157;refine yai bj.o ?_;rintro e bn ⟨rfl,P,B,ad⟩;have ba:M _:=h1 B ad;clear B ad);go_end0
    exact aG.o _ _ (.inr (.inr ⟨d,ps,body,F,aP,q,P,rfl,rfl,ba.o.1,ah.o.trans ba.o.2⟩))
 have aW:st.calls=500:=xaa;rw[aW]at co;have aJ:=Q d;clear aW d;exact qci
end
section
attribute[local go_sem] dI dG dF gh gj gn mkF
variable{ρ:Nat->Nat}{aO:List TkV}{G:List Nat}
theorem JW{E W names calls bm am}(C:TqT E ρ W names calls aO G bm am)(s):∃v,∀A,Kept 0 0 W A->(Instr.lookup 99 (.map (some E.F)) (dJ s) true).run prog A=.ok (.tuple #[v,.bool (match d8 names s with|some (.fn _ _ _)=>true|_=>false)]) A/\∃a n c x,v=.agg #[.slice a n c,x]/\(x=.nilIface\/∃T y,x=.iface T y):=by
 obtain⟨bv,bL,bo⟩:=C.f;have bo:=bo s;refine⟨(bv s).getD (.agg #[.slice none 0 0,.nilIface]),λA k=>?_⟩;rw[qY (bL.chg (k.chg (S:=λ_=>False)) (λc=>c)) underlying99 underlying9 (ET _) s];cases bi:d8 names s with
 |none=>
  rw[bi]at bo;have bo:bv s=none:=bo;grind
 |some b=>
  rw[bi]at bo;cases b with
  |val n v=>
   have bo:bv s=none:=bo;grind
  |fn n ps body=>
   obtain⟨sl,T,x,z,J,_⟩:=bo;grind[Bb]
theorem dH.qfi(h:Zp:=by
 have b:=U;clear ax C aL L k U az;generalize d8 st.names J=fb at f a⊢;cases fb with
 |none=>
  simp only at f a;go_enter func261,ntmps261;go_upto_region 1 with fail;change Code.wp _ _ _ _ (w.alloc (.cells #[h0 i1,dJ J,h0 ap] 84));generalize (w.alloc (.cells #[h0 i1,dJ J,h0 ap] 84))=aa at*;generalize av:w.heap.size=bh at*;clear av;go_region
  have bJ:=Q ay.o.drew;have bg:aa.drew.cell? ⟨bh,1,none⟩=some (dJ J):=n1;have a8:aa.drew.cell? ⟨bh,2,none⟩=some (h0 ap):=aI;have bE:aa.drew.cell? ⟨E.T,2,none⟩=some (.map (some E.F)):=bu;have cx:E.T<aa.drew.heap.size:=aN;have bL:bh<aa.drew.heap.size:=b;clear n1 aI ba bu f aN b ay;generalize aa.drew=Z at*;obtain⟨g,er,l,d0,m,rfl,i⟩:=a.o _ bJ.o.drew;obtain⟨dd,_⟩:=a.o _ (bJ.o.trans (dE 0 0 Z (.cells #[.slice none 0 0,.nilIface] 173))).drew;clear a;go_upto_region 2 with fail;obtain rfl|⟨j,gx,rfl⟩:=i
  all_goals go_region
  all_goals
   go_wp2
   go_end0
   exact⟨(bJ.o.trans (dE 0 0 Z _)).drew,.inl ⟨trivial,rfl⟩⟩
 |some aQ=>
  cases aQ with
  |val bb n=>
   simp only at f a;go_enter func261,ntmps261;go_upto_region 1 with fail;change Code.wp _ _ _ _ (w.alloc (.cells #[h0 i1,dJ J,h0 ap] 84));generalize (w.alloc (.cells #[h0 i1,dJ J,h0 ap] 84))=aa at*;generalize av:w.heap.size=bh at*;clear av;go_region
   have bJ:=Q ay.o.drew;have bg:aa.drew.cell? ⟨bh,1,none⟩=some (dJ J):=n1;have a8:aa.drew.cell? ⟨bh,2,none⟩=some (h0 ap):=aI;have bE:aa.drew.cell? ⟨E.T,2,none⟩=some (.map (some E.F)):=bu;have cx:E.T<aa.drew.heap.size:=aN;have bL:bh<aa.drew.heap.size:=b;clear n1 aI ba bu f aN b ay;generalize aa.drew=Z at*;obtain⟨g,er,l,d0,m,rfl,i⟩:=a.o _ bJ.o.drew;obtain⟨dd,_⟩:=a.o _ (bJ.o.trans (dE 0 0 Z (.cells #[.slice none 0 0,.nilIface] 173))).drew;clear a;go_upto_region 2 with fail;obtain rfl|⟨j,gx,rfl⟩:=i
   all_goals go_region
   all_goals
    go_wp2_with (go_at_call 52;refine yai j4 ?_;rintro e ao ⟨rfl,X⟩;obtain rfl:=X.symm)
    exact⟨rfl,(bJ.o.trans (dE 0 0 Z _)).drew,.inr ⟨by simp,rfl⟩⟩
  |fn bb ps bd=>
   simp only at f a;go_enter func261,ntmps261;go_upto_region 1 with fail;change Code.wp _ _ _ _ (w.alloc (.cells #[h0 i1,dJ J,h0 ap] 84));generalize (w.alloc (.cells #[h0 i1,dJ J,h0 ap] 84))=aa at*;generalize av:w.heap.size=bh at*;clear av;go_region
   have bJ:=Q ay.o.drew;have bg:aa.drew.cell? ⟨bh,1,none⟩=some (dJ J):=n1;have a8:aa.drew.cell? ⟨bh,2,none⟩=some (h0 ap):=aI;have bE:aa.drew.cell? ⟨E.T,2,none⟩=some (.map (some E.F)):=bu;have cx:E.T<aa.drew.heap.size:=aN;have bL:bh<aa.drew.heap.size:=b;clear n1 aI ba bu f aN b ay;generalize aa.drew=Z at*;obtain⟨g,er,l,d0,m,rfl,i⟩:=a.o _ bJ.o.drew;obtain⟨dd,_⟩:=a.o _ (bJ.o.trans (dE 0 0 Z (.cells #[.slice none 0 0,.nilIface] 173))).drew;clear a;go_upto_region 2 with fail;obtain rfl|⟨j,gx,rfl⟩:=i
   all_goals go_region
   all_goals
    go_wp2_with (go_at_call 52;refine yai j4 ?_;rintro e ao ⟨rfl,X⟩;obtain rfl:=X.symm)
    exact⟨rfl,(bJ.o.trans (dE 0 0 Z _)).drew,.inr ⟨by simp,rfl⟩⟩):Zp:=h
theorem dH.qgv(h:Zp:=by
 obtain⟨L,_,U⟩:=eo w #[h0 (eV J),dJ J,h0 ap] 84 (ib).chg (S:=λ_=>False) (λc=>c);have ba:=dZ aL C.lt C.t1;have bu:=dZ aL C.lt C.t2;have aN:=yaj C.lt aL.size;have f:=sQ C.v J _ aL.drew;obtain⟨bC,k⟩:=JW C J;have ay:=Q aL;have a:=Q k;generalize eV J=i1 at*;exact qfh):Zp:=h
open dH in
theorem qp{E st}(h:Tq E ρ w st aO G){t}(az:t.sym≠[]):
  Calls prog 261 #[ge E.T,tkV (cvT t)] w λe D=>Kept 0 0 w D/\((d8 st.names t.text=none/\e=.returned (.tuple #[]))\/(d8 st.names t.text≠none/\e=Thr 3 (t.pos:Nat))):=by
 exact qgu
end
section
variable{t:List UInt8}{f i:Nat}
theorem qH(s):jQ s≠fx/\jQ s≠iS:=by
 unfold jQ;split
 ·rename_i h;constructor
  ·rintro rfl;revert h;decide
  rintro rfl;revert h;decide
 exact⟨by decide,by decide⟩
theorem qI(x):iD x≠fx/\iD x≠iS:=by
 grind[iD,fx,iS]
theorem Be(hi:i<t.length)(h:(nxT t i).sym=fx):∀k,k<(nxT t i).text.length->48<=bt (nxT t i).text k/\bt (nxT t i).text k<=57:=by
 unfold nxT at h⊢;split at h
 ·exact absurd h (qH _).1
 split at h
 ·rename_i c1 c2;rw[h2 c1,h3 c2];simp only at h⊢;unfold mB at h;split at h
  ·exact absurd h xab
  rename_i c3;have e:jl t i=eF dig t i:=by unfold jl;grind
  rw[e];intro k H;rw[kJ (iC _ t i xaa)]at H;rw[oB H];exact mS (l6 i _ xaa xaa)
 exact absurd h (qI _).1
theorem tr(t i):∀af∈jx t i,af.sym=fx->∀k,k<af.text.length->48<=bt af.text k/\bt af.text k<=57:=by
 intro af aR ai;rw[jx]at aR;split at aR
 ·rename_i h;split at aR
  ·simp_all[Be]
  obtain c|c:=List.mem_cons.1 aR
  ·subst c;exact Be h ai
  exact tr t _ _ c ai
 cases aR
termination_by t.length-i
decreasing_by
 grind[oz,mA]
theorem F6{l}(h:∀k,k<l.length->48<=bt l k/\bt l k<=57)(V:iu l):Dgs l:=by
 refine⟨?_,h⟩
 have aj:(fh l).countP dig=(fh l).length:=by
  rw[List.countP_eq_length];intro x ar;unfold fh at ar;obtain⟨b,I,rfl⟩:=List.mem_map.1 ar;obtain⟨k,H,rfl⟩:=List.getElem_of_mem I;have:=h k H;unfold bt at this;rw[yah,yal H]at this;simp only[Option.getD_some]at this;simp[dig];omega
 have J:=V.2;rw[aj]at J;unfold fh at J;grind
def isN(tk:Tok):Prop:=tk.sym=fx\/tk.sym=iS
def CS(x:List UInt8)(c:Int):Prop:=(¬my (fh x)/\c=2)\/(my (fh x)/\15<(fh x).countP dig/\c=5)
theorem yq{x c}(h:RN (fh x) f c):(iu x/\c=0)\/(CS x c/\c≠0):=by
 obtain⟨z,_,J⟩|⟨z,J,_,al⟩|⟨z,J,_,_,al⟩:=h
 ·exact .inr ⟨.inl ⟨z,J⟩,by omega⟩
 ·exact .inr ⟨.inr ⟨z,J,al⟩,by omega⟩
 exact .inl ⟨⟨z,J⟩,al⟩
def LSt.zero:LSt:=⟨[],[],[],[],0⟩
def PaR(t:List UInt8)(r:Rs LSt):Prop:=
 (4000<t.length/\r=.error (5,0))\/
 (t.length<=4000/\∃p:Nat,dT t.length (eK t) [eE]=(p:Int)/\r=.error (2,p))\/
 (t.length<=4000/\dT t.length (eK t) [eE]=-1/\∃i c,i<(eK t).length/\isN ((eK t).getD i h8)/\CS ((eK t).getD i h8).text c/\(∀j,j<i->isN ((eK t).getD j h8)->iu ((eK t).getD j h8).text)/\r=.error (c,((eK t).getD i h8).pos))\/
 (t.length<=4000/\dT t.length (eK t) [eE]=-1/\(∀tk∈eK t,isN tk->iu tk.text)/\∃ss f,PGm ss (eK t)/\kM f LSt.zero ss=some r)
theorem JX:Gd LSt.zero:=⟨by decide,by decide,by decide,λv aD=>(by cases aD),by decide,by decide,by decide⟩
theorem JY:NmOK LSt.zero:=λb I=>by cases I
theorem uL{st s aI r}(h:kM f st (s::aI)=some r):∃r1,fF f st s=some r1/\(∀q,r1=.error q->r=.error q)/\(∀ak,r1=.ok ak->kM f ak aI=some r):=by
 grind[kM]
theorem qJ{k}(H:k<e-i)(bl:e<=t.length):(fh (fJ t i e)).getD k 0=bt t (i+k):=by
 grind[nC,kJ,oB]
theorem F7(hi:i<t.length)(aT:dig (bt t i)=true):my (fh (fJ t i (jl t i))):=by
 have i1:=pe hi;have g0:=pd hi aT;have bD:(fh (fJ t i (jl t i))).length=jl t i-i:=by rw[pF,kJ i1]
 have l:=iV hi aT;have g:=iC dig t i xaa;by_cases c:eF dig t i+1<t.length/\bt t (eF dig t i)=46/\dig (bt t (eF dig t i+1))=true
 ·have e:jl t i=eF dig t (eF dig t i+1):=by unfold jl;rw[h3 c]
  have y:=iV c.1 c.2.2;rw[<-e]at y;have A:∀k,k<jl t i-i->_:=λk H=>qJ H i1
  have b:∀k,k<jl t i-i->i+k≠eF dig t i->dig _=true:=λk H cd=>by
   obtain q|q:=Nat.lt_or_ge (i+k) (eF dig t i)
   ·exact l6 i _ xaa q
   ·exact l6 (eF dig t i+1) _ xaa xaa
  refine⟨(eF dig t i-i:Nat),?_⟩;constructor
  ·omega
  ·grind[dig]
  ·grind
  omega
 have e:jl t i=eF dig t i:=by unfold jl;rw[h2 c]
 have A:∀k,k<jl t i-i->dig ((fh _).getD k 0)=true:=λk H=>by
  rw[qJ H i1]
  exact l6 i _ xaa xaa
 refine⟨-1,?_⟩;constructor
 ·omega
 ·intro k H;rw[bD]at H;constructor
  ·intro h;exfalso;have:=A k H;rw[h]at this;revert this;decide
  omega
 ·simp_all
 left;rfl
theorem Bf(hi:i<t.length)(h:isN (nxT t i)):my (fh (nxT t i).text):=by
 unfold nxT at h⊢;split at h
 ·obtain h|h:=h<;>grind[qH]
 split at h
 ·grind[F7]
 obtain h|h:=h<;>grind[qI]
theorem lk(t i):∀af∈jx t i,isN af->my (fh af.text):=by
 intro af aR ai;rw[jx]at aR;split at aR
 ·rename_i h;split at aR
  ·grind[Bf]
  obtain c|c:=List.mem_cons.1 aR
  ·subst c;exact Bf h ai
  exact lk t _ _ c ai
 cases aR
termination_by t.length-i
decreasing_by
 grind[oz,mA]
