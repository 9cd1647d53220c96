import Derived.Test.YtdpbpcnldpkljaaGreatP30
import Derived.Test.YtdpbpcnldpkljaaGreatP23
namespace Go.Proofs.Z
open Tryz
set_option maxRecDepth 1000000
set_option maxHeartbeats 0
section
open Go.RowKit Flt
attribute [local go_sem] eD eB eA
variable {x y:List UInt8} {P B cap:Nat} {ts:List Tok} {a:Option Addr} {u1 u2 u3 u4:Value} {vs:List Vl} {st:LSt} {bs:List Bc}
def opQ (x y:List UInt8)(ts:List Tok)(k:Nat):OpS:=iJ x y ⟨0,0,-1,false⟩ (ts.take k)
theorem In {k:Nat}(h:k<=ts.length):(opQ x y ts k).i=k:=by
 unfold opQ
 rw[Il,List.length_take]
 show 0+_=_
 omega
theorem Io {k:Nat}(h:k<ts.length):(opQ x y ts (k+1)).b=gW (ts.getD k Tok.zero).sym:=by
 unfold opQ
 rw[pL x y _ ts k h,I6]
theorem Aw {k:Nat}(h:k<ts.length):opQ x y ts (k+1)=gF x y (opQ x y ts k) (ts.getD k Tok.zero):=pL x y _ ts k h
theorem Gg {k:Nat}:-((k:Int))<=(opQ x y ts k).d/\(opQ x y ts k).d<=k:=by
 have h:=Im x y (ts.take k) ⟨0,0,-1,false⟩
 have h2:(ts.take k).length<=k:=by rw[List.length_take];omega
 unfold opQ
 simp only at h
 omega
theorem fB (W:World)(g off m cap:Nat)(ts:List Tok)(f:TkA W g off m ts)(hm:m<=5000)(x y:List UInt8):
  Calls prog 107 #[.slice (some ⟨g,off,none⟩) m cap,eE x,eE y] W λe W'=>e=.returned (.int .i64 (opM x y ts))/\W'=W:=by
 have HF:Hid _:=f
 have HL:Hid (ts.length=m):=f.len
 have HE:Hid (opM x y ts=(opQ x y ts m).at_):=by show _=_;unfold opM opQ;rw[<-f.len,List.take_length]
 clear f
 rw[HE.out]
 go_enter func107,ntmps107
 go_wp2_with fail
 go_loopw [7,8,9] (λdv av iv W'=>W'=W/\∃k:Nat,k<=m/\iv=.int .i64 k/\dv=.int .i64 (opQ x y ts k).d/\av=.int .i64 (opQ x y ts k).at_) (λ_ _ iv _=>m-(intOf iv).toNat)
 case atStart=>exact⟨rfl,0,Nat.zero_le _,rfl,rfl,rfl⟩
 case round=>
  obtain⟨rfl,k,hk,rfl,rfl,rfl⟩:=hrel
  by_cases hlt:k<m
  ·have hkl:k<ts.length:=by rw[HL.out];exact hlt
   have c0:=HF.out.c0 k hlt
   have HS:Hid _:=Aw (x:=x) (y:=y) hkl
   have hbd:=Gg (x:=x) (y:=y) (ts:=ts) (k:=k)
   have hi:=In (x:=x) (y:=y) (ts:=ts) (k:=k) xaa
   have HB0:Hid (k=0->(opQ x y ts k).b=false):=λh=>by subst h;rfl
   have HB1:Hid (∀q,k=q+1->(opQ x y ts k).b=gW (ts.getD q Tok.zero).sym):=λq h=>by subst h;exact Io xaa
   have HC1:Hid (∀q,k=q+1->wr.cell? ⟨g,off+q*3,none⟩=some (eE (ts.getD q Tok.zero).sym)):=λq h=>HF.out.c0 q xaa
   generalize opQ x y ts k=Q at HS hbd hi HB0 HB1 ⊢
   generalize ts.getD k Tok.zero=tk at c0 HS
   obtain⟨qi,d,a,b⟩:=Q
   simp only at hbd hi HS HB0 HB1 ⊢
   subst hi
   by_cases h1:tk.sym=[40]
   ·have R:Hid (opQ x y ts (qi+1)=⟨qi+1,d+1,a,false⟩):=HS.out.trans (rW h1)
    have t1:(tk.sym==[40])=true:=by rw[h1];rfl
    have z1:IntKind.i64.wrap (d+1)=d+1:=by rw[IntKind.wrap_i64];omega
    generalize tk.sym=s at c0 t1
    clear h1 HS HB0 HB1 HC1 hkl
    exact xev
   by_cases h2:tk.sym=[41]
   ·have R:Hid (opQ x y ts (qi+1)=⟨qi+1,d-1,a,true⟩):=HS.out.trans (rX h2)
    have t1:(tk.sym==[40])=false:=yaw h1
    have t2:(tk.sym==[41])=true:=by rw[h2];rfl
    have z1:IntKind.i64.wrap (d-1)=d-1:=by rw[IntKind.wrap_i64];omega
    generalize tk.sym=s at c0 t1 t2
    clear h1 h2 HS HB0 HB1 HC1 hkl
    exact xev
   have t1:(tk.sym==[40])=false:=yaw h1
   have t2:(tk.sym==[41])=false:=yaw h2
   have HO:Hid (¬(d=0/\b=true/\(tk.sym=x\/tk.sym=y))->opQ x y ts (qi+1)=⟨qi+1,d,a,gW tk.sym⟩):=λh=>HS.out.trans (kH h1 h2 h)
   have HH:Hid ((d=0/\b=true/\(tk.sym=x\/tk.sym=y))->opQ x y ts (qi+1)=⟨qi+1,d,(qi:Int),gW tk.sym⟩):=λh=>HS.out.trans (rY h1 h2 h)
   clear HS h1 h2
   generalize gW tk.sym=eb at HO HH
   generalize tk.sym=s at c0 t1 t2 HO HH
   by_cases hd:d=0
   ·subst hd
    cases qi with
    |zero=>
     have R:Hid _:=HO.out (λc=>by have:=HB0.out rfl;rw[this] at c;exact absurd c.2.1 xac)
     clear HB0 HB1 HC1 hkl HO HH
     rw[Nat.zero_mul,Nat.add_zero] at c0
     go_wp2_with fail
     go_roundw
     case rel=>exact⟨trivial,0+1,by omega,by go_num,by rw[R.out],by rw[R.out]⟩
     case measure=>simp[intOf];omega
    |succ q=>
     have hb:=HB1.out q rfl
     have c1:=HC1.out q rfl
     generalize (ts.getD q Tok.zero).sym=ps at hb c1
     have HEB:Hid (b=gW ps):=hb
     clear hb HB0 HB1 HC1 hkl
     have z1:IntKind.i64.wrap (((q+1:Nat):Int)-1)=(q:Int):=by rw[IntKind.wrap_i64];omega
     have z2:(0:Int)<((q:Nat):Int)+1:=xaa
     cases tx:(s==x)
     ·have nx:s≠x:=λc=>by rw[c] at tx;simp at tx
      cases ty:(s==y)
      ·have ny:s≠y:=λc=>by rw[c] at ty;simp at ty
       have R:Hid _:=HO.out (λc=>c.2.2.elim nx ny)
       clear nx ny HO HH c1
       go_wp2_with fail
       go_roundw
       case rel=>exact⟨trivial,q+1+1,by omega,by go_num,by rw[R.out],by rw[R.out]⟩
       case measure=>simp[intOf];omega
      ·have ey:s=y:=by simpa using ty
       have HO2:Hid (gW ps=false->_):=λh=>HO.out (λc=>by rw[HEB.out,h] at c;exact absurd c.2.1 xac)
       have HH2:Hid (gW ps=true->_):=λh=>HH.out ⟨rfl,HEB.out.trans h,.inr ey⟩
       clear nx ey HO HH HEB
       cases p0:(ps==[110,97,109,101])
       case true=>
        have R:Hid _:=HH2.out (by show gW ps=_;unfold gW f8 gm iT;rw[p0];rfl)
        clear HO2 HH2
        go_wp2_with fail
        go_roundw
        case rel=>exact⟨trivial,q+1+1,by omega,by go_num,by rw[R.out],by rw[R.out]⟩
        case measure=>simp[intOf];omega
       case false=>
        cases p1:(ps==[105,110,116])
        case true=>
         have R:Hid _:=HH2.out (by show gW ps=_;unfold gW f8 gm iT;rw[p0,p1];rfl)
         clear HO2 HH2
         go_wp2_with fail
         go_roundw
         case rel=>exact⟨trivial,q+1+1,by omega,by go_num,by rw[R.out],by rw[R.out]⟩
         case measure=>simp[intOf];omega
        case false=>
         cases p2:(ps==[100,101,99])
         case true=>
          have R:Hid _:=HH2.out (by show gW ps=_;unfold gW f8 gm iT;rw[p0,p1,p2];rfl)
          clear HO2 HH2
          go_wp2_with fail
          go_roundw
          case rel=>exact⟨trivial,q+1+1,by omega,by go_num,by rw[R.out],by rw[R.out]⟩
          case measure=>simp[intOf];omega
         case false=>
          cases p3:(ps==[41])
          case true=>
           have R:Hid _:=HH2.out (by show gW ps=_;unfold gW f8 gm iT;rw[p0,p1,p2,p3];rfl)
           clear HO2 HH2
           go_wp2_with fail
           go_roundw
           case rel=>exact⟨trivial,q+1+1,by omega,by go_num,by rw[R.out],by rw[R.out]⟩
           case measure=>simp[intOf];omega
          case false=>
           have R:Hid _:=HO2.out (by show gW ps=_;unfold gW f8 gm iT;rw[p0,p1,p2,p3];rfl)
           clear HO2 HH2
           go_wp2_with fail
           go_roundw
           case rel=>exact⟨trivial,q+1+1,by omega,by go_num,by rw[R.out],by rw[R.out]⟩
           case measure=>simp[intOf];omega
     ·have ex:s=x:=by simpa using tx
      have HO2:Hid (gW ps=false->_):=λh=>HO.out (λc=>by rw[HEB.out,h] at c;exact absurd c.2.1 xac)
      have HH2:Hid (gW ps=true->_):=λh=>HH.out ⟨rfl,HEB.out.trans h,.inl ex⟩
      clear ex HO HH HEB
      cases p0:(ps==[110,97,109,101])
      case true=>
       have R:Hid _:=HH2.out (by show gW ps=_;unfold gW f8 gm iT;rw[p0];rfl)
       clear HO2 HH2
       go_wp2_with fail
       go_roundw
       case rel=>exact⟨trivial,q+1+1,by omega,by go_num,by rw[R.out],by rw[R.out]⟩
       case measure=>simp[intOf];omega
      case false=>
       cases p1:(ps==[105,110,116])
       case true=>
        have R:Hid _:=HH2.out (by show gW ps=_;unfold gW f8 gm iT;rw[p0,p1];rfl)
        clear HO2 HH2
        go_wp2_with fail
        go_roundw
        case rel=>exact⟨trivial,q+1+1,by omega,by go_num,by rw[R.out],by rw[R.out]⟩
        case measure=>simp[intOf];omega
       case false=>
        cases p2:(ps==[100,101,99])
        case true=>
         have R:Hid _:=HH2.out (by show gW ps=_;unfold gW f8 gm iT;rw[p0,p1,p2];rfl)
         clear HO2 HH2
         go_wp2_with fail
         go_roundw
         case rel=>exact⟨trivial,q+1+1,by omega,by go_num,by rw[R.out],by rw[R.out]⟩
         case measure=>simp[intOf];omega
        case false=>
         cases p3:(ps==[41])
         case true=>
          have R:Hid _:=HH2.out (by show gW ps=_;unfold gW f8 gm iT;rw[p0,p1,p2,p3];rfl)
          clear HO2 HH2
          go_wp2_with fail
          go_roundw
          case rel=>exact⟨trivial,q+1+1,by omega,by go_num,by rw[R.out],by rw[R.out]⟩
          case measure=>simp[intOf];omega
         case false=>
          have R:Hid _:=HO2.out (by show gW ps=_;unfold gW f8 gm iT;rw[p0,p1,p2,p3];rfl)
          clear HO2 HH2
          go_wp2_with fail
          go_roundw
          case rel=>exact⟨trivial,q+1+1,by omega,by go_num,by rw[R.out],by rw[R.out]⟩
          case measure=>simp[intOf];omega
   ·have R:Hid _:=HO.out (λc=>hd c.1)
    have hd0:(d==0)=false:=yaw hd
    clear HB0 HB1 HC1 hkl HO HH hd
    exact xev
  ·obtain rfl:k=m:=xaa
   go_wp2_with fail
   go_ret
   exact⟨rfl,rfl⟩
theorem Ip (l:List UInt8)(k:Nat)(h:k<(⟨l.toArray⟩:ByteArray).size):(((⟨l.toArray⟩:ByteArray)[k]'h).toNat:Int)=bt l k:=by
 have hk:k<l.length:=by rw[<-fQ];exact h
 unfold bt
 rw[yah,yal hk]
 rfl
theorem qL (l:List UInt8)(k:Nat)(h:k<l.length):gz (l.take (k+1))=gz (l.take k)*10+(bt l k-48):=by
 unfold gz
 rw[yat h,List.foldl_append]
 unfold bt
 rw[yah,yal h]
 rfl
theorem qM {l:List UInt8}(h:Dgs l):∀k,k<=l.length->0<=gz (l.take k)/\gz (l.take k)<10 ^ k
 |0,_=>by rw[List.take_zero];exact⟨by decide,by decide⟩
 |k+1,hk=>by
  have ih:=qM h k xaa
  have hd:=h.d k xaa
  rw[qL l k xaa,Int.pow_succ]
  omega
theorem Iq:∀k:Nat,k<=15->(10:Int) ^ k<=1000000000000000:=by
 intro k hk
 have:∀k:Fin 16,(10:Int) ^ k.1<=1000000000000000:=xab
 exact this ⟨k,by omega⟩
theorem mE {l:List UInt8}(h:Dgs l){k:Nat}(hk:k<=l.length):0<=gz (l.take k)/\gz (l.take k)<1000000000000000:=by
 have h1:=qM h k hk
 have h2:=Iq k (by have:=h.len;omega)
 omega
theorem tT (t:Tok)(h:Dgs t.text)(W:World):Calls prog 77 #[ik t] W λe W'=>e=.returned (.int .i64 (gz t.text))/\Kept 0 0 W W':=by
 obtain⟨sy,ps,l⟩:=t
 simp only at h ⊢
 unfold ik
 simp only
 have HD:Hid _:=h
 have hl:=h.len
 have HB:Hid (TB (W.alloc (.cells #[eE sy,.int .i64 (ps:Int),eE l] 74)) W.heap.size sy ps l):=gH W sy ps l
 have HK:Hid _:=ez 0 0 W (.cells #[eE sy,.int .i64 (ps:Int),eE l] 74)
 have hs:(⟨l.toArray⟩:ByteArray).size=l.length:=fQ l
 clear h
 go_enter func77,ntmps77
 go_wp2_with fail
 change Code.wp _ _ _ _ (W.alloc (.cells #[eE sy,.int .i64 (ps:Int),eE l] 74))
 generalize W.alloc (.cells #[eE sy,.int .i64 (ps:Int),eE l] 74)=W1 at HB HK ⊢
 have y2:=HB.out.c2
 go_loopw [3,4] (λv iv W'=>W'=W1/\∃k:Nat,k<=l.length/\iv=.int .i64 k/\v=.int .i64 (gz (l.take k))) (λ_ iv _=>l.length-(intOf iv).toNat)
 case atStart=>exact⟨rfl,0,Nat.zero_le _,rfl,rfl⟩
 case round=>
  obtain⟨rfl,k,hk,rfl,rfl⟩:=hrel
  by_cases hlt:k<l.length
  ·have hy:=Ip l k
   have hd:=HD.out.d k hlt
   have hb:=mE HD.out (k:=k) hk
   have R:Hid (gz (l.take (k+1))=gz (l.take k)*10+(bt l k-48)):=qL l k hlt
   generalize bt l k=x at hy hd R
   generalize gz (l.take k)=v at hb R ⊢
   have z1:IntKind.i64.wrap (v*10)=v*10:=by rw[IntKind.wrap_i64];omega
   have z2:IntKind.u8.wrap (x-48)=x-48:=by unfold IntKind.wrap;simp[IntKind.bits,IntKind.signed];omega
   have z3:IntKind.i64.wrap (v*10+(x-48))=v*10+(x-48):=by rw[IntKind.wrap_i64];omega
   have z4:IntKind.i64.wrap (x-48)=x-48:=by rw[IntKind.wrap_i64];omega
   have z5:(k:Int)<(l.length:Int):=xaa
   go_wp2_with fail
   go_roundw
   case rel=>exact⟨trivial,k+1,by omega,by go_num,by rw[R.out]⟩
   case measure=>simp[intOf];omega
  ·obtain rfl:k=l.length:=xaa
   have z5:¬((l.length:Int)<(l.length:Int)):=xaa
   go_wp2_with fail
   go_ret
   exact⟨rfl,HK.out⟩
theorem WS.vals {W w9:World}(h:WS W P B u1 u2 u3 u4 bs st)(c9:Chg (λb=>u2.ownBlock=some b) W w9){g9 n9 cap9:Nat}(hn:n9=vs.length)(hown:w9.ownsRow B 35 6 (.slice (some ⟨g9,0,none⟩) n9 cap9) n9 (fp vs))(hat:u2.ownBlock=some g9\/W.heap.size<=g9):
  WS (w9.setCell ⟨P,1,none⟩ (.slice (some ⟨g9,0,none⟩) n9 cap9)) P B u1 (.slice (some ⟨g9,0,none⟩) n9 cap9) u3 u4 bs {st with vs:=vs}/\Mv (Mst P u1 u2 u3 u4) W (Mst P u1 (.slice (some ⟨g9,0,none⟩) n9 cap9) u3 u4) (w9.setCell ⟨P,1,none⟩ (.slice (some ⟨g9,0,none⟩) n9 cap9)):=by
 obtain⟨p1,p2,p3,p4⟩:=h.np
 obtain⟨a12,a13,a14,a23,a24,a34⟩:=h.ap
 have ob:∀b,(Value.slice (some ⟨g9,0,none⟩) n9 cap9).ownBlock=some b↔g9=b:=λb=>by simp[Value.ownBlock]
 have gP:g9≠P:=λe=>by
  subst e
  rcases hat with c|c
  ·exact p2 c
  ·have:=h.lt;omega
 have n2:(Value.slice (some ⟨g9,0,none⟩) n9 cap9).ownBlock≠some P:=λc=>gP ((ob P).1 c)
 have ec:∀o,w9.cell? ⟨P,o,none⟩=W.cell? ⟨P,o,none⟩:=λo=>c9.cell (p:=⟨P,o,none⟩) h.lt p2
 have es:∀o,o≠1->(w9.setCell ⟨P,1,none⟩ (.slice (some ⟨g9,0,none⟩) n9 cap9)).cell? ⟨P,o,none⟩=W.cell? ⟨P,o,none⟩:=λo ho=>(eW _ _ _ _ _ _ (.inr (λe=>ho e.symm))).trans (ec o)
 have ks:=(eL (lo:=P) (hi:=P+1) w9 ⟨P,1,none⟩ (.slice (some ⟨g9,0,none⟩) n9 cap9) yac)
 have mv:Mv (Mst P u1 u2 u3 u4) W (Mst P u1 (.slice (some ⟨g9,0,none⟩) n9 cap9) u3 u4) (w9.setCell ⟨P,1,none⟩ (.slice (some ⟨g9,0,none⟩) n9 cap9)):=by
  refine⟨Chg.andThen (S:=Mst P u1 u2 u3 u4) ⟨c9.os,c9.tape,c9.output,c9.size,λi hi hn=>c9.block i hi (λc=>hn (.inr (.inr (.inl c))))⟩ (ks.chg1 (S:=Mst P u1 u2 u3 u4) (.inl rfl)),λb hb=>?_⟩
  rcases hb with c|c|c|c|c
  ·exact .inl (.inl c)
  ·exact .inl (.inr (.inl c))
  ·rw[ob] at c
   subst c
   rcases hat with d|d
   ·exact .inl (.inr (.inr (.inl d)))
   ·exact .inr d
  ·exact .inl (.inr (.inr (.inr (.inl c))))
  ·exact .inl (.inr (.inr (.inr (.inr c))))
 have ap:∀{u:Value} {e s n:Nat} {xs:List Value},W.ownsRow B e s u n xs->Apart u u2->Apart u (.slice (some ⟨g9,0,none⟩) n9 cap9):=λho ha k hk hv=>by
  exact xfa
 refine⟨⟨by simpa using yaj h.lt c9.size,λo=>?_,(es 0 xab).trans h.c0,fR _ _ _ _ _ ((ec 1).trans h.c1),(es 2 xab).trans h.c2,(es 3 xab).trans h.c3,(es 4 xab).trans h.c4,(es 5 xab).trans h.c5,(es 6 xab).trans h.c6,?_,?_,?_,?_,⟨p1,n2,p3,p4⟩,⟨ap h.r1 a12,a13,a14,(ap h.r3 a23.symm).symm,(ap h.r4 a24.symm).symm,a34⟩,h.nl,λi hi=>(h.nb i hi).mv mv,h.sz⟩,mv⟩
 ·have:=(c9.frozen (p:=⟨P,o,none⟩) h.lt p2).trans (h.fr o)
  simp[this]
 ·exact eH (fj h.r1 c9 (λb hb c=>a12 b hb c)) p1
 ·subst hn;exact eH hown n2
 ·exact eH (fj h.r3 c9 (λb hb c=>a23 b c hb)) p3
 ·exact eH (fj h.r4 c9 (λb hb c=>a24 b c hb)) p4
theorem iB {W:World}{e s n:Nat}{v:Value}{xs:List Value}(f:W.ownsRow B e s v n xs):∃a cap,v=.slice a n cap:=by
 exact xep
theorem si {W:World}{n:Nat}{xs:List Int}(f:W.ownsRow B 3 1 (.slice a n cap) n (xs.map (Value.int .i64)))(hl:xs.length=n):IS W 0 W.heap.size a n xs:=by
 refine⟨hl,?_⟩
 rcases f.2 with⟨_,c⟩|⟨g,c,cur,e,b1,b2,b3,_,b5,b6⟩
 ·exact .inl c
 ·cases e
  have hg:g<W.heap.size:=by
   exact xbf
  refine .inr ⟨g,0,rfl,Nat.zero_le _,hg,hg,λk hk=>?_⟩
  rw[Nat.zero_add,cell_of_row W g _ cur _ _ b2,<-Array.getElem?_toList]
  exact xfm
theorem Ax {W:World}{n:Nat}(f:W.ownsRow B 35 6 (.slice a n cap) n (fp vs))(hl:vs.length=n)(hk:∀v∈vs,v.k<18446744073709551616):VS W 0 W.heap.size a n vs:=by
 by_cases h0:n=0
 ·exact⟨hl,hk,.inl h0⟩
 ·obtain⟨g,c,e,b1,b2,_,b4⟩:=kr f xaa hl
  cases e
  exact b4.vs hk
theorem WS.gs {W:World}(h:WS W P B u1 u2 u3 u4 bs st)(hk:∀v∈st.vs,v.k<18446744073709551616):∃a1 c1 a2 c2 a3 c3,u1=.slice a1 st.ins.length c1/\u2=.slice a2 st.vs.length c2/\u3=.slice a3 st.outs.length c3/\GS W a1 st.ins.length a2 st.vs.length a3 st.outs.length st.ins st.vs st.outs:=by
 obtain⟨a1,c1,e1⟩:=iB h.r1
 obtain⟨a2,c2,e2⟩:=iB h.r2
 obtain⟨a3,c3,e3⟩:=iB h.r3
 refine⟨a1,c1,a2,c2,a3,c3,e1,e2,e3,⟨si (by have:=h.r1;rw[e1] at this;exact this) rfl,Ax (by have:=h.r2;rw[e2] at this;exact this) rfl hk,si (by have:=h.r3;rw[e3] at this;exact this) rfl⟩⟩
structure Gd (st:LSt):Prop where
 n:st.vs.length<=2000
 c:eX st.vs<=50000
 ok:(List.range st.vs.length).all (okV st.ins st.vs)=true
 k:∀v∈st.vs,v.k<18446744073709551616
 i:st.ins.length<=20
 o:st.outs.length<=50
 m:st.names.length<=5000
theorem Gd.len (h:Gd st):∀k,k<st.vs.length->1<=(st.vs.getD k Vl.zero).len/\(st.vs.getD k Vl.zero).len<=1000:=λk hk=>by
 have h1:=List.all_eq_true.1 h.ok k (List.mem_range.2 hk)
 exact of_decide_eq_true (sW h1)
theorem tU {v:Vl}(h:∀k,k<vs.length->1<=(vs.getD k Vl.zero).len/\(vs.getD k Vl.zero).len<=1000)(hv:1<=v.len/\v.len<=1000):∀k,k<(vs++[v]).length->1<=((vs++[v]).getD k Vl.zero).len/\((vs++[v]).getD k Vl.zero).len<=1000:=λk hk=>by
 by_cases c:k<vs.length
 ·rw[yah,yas c,<-yah]
  exact h k c
 ·have e:k=vs.length:=by simp at hk;omega
  subst e
  rw[yah,yar yad,Nat.sub_self]
  exact hv
theorem pM {v:Vl}(h:∀u∈vs,u.k<18446744073709551616)(hv:v.k<18446744073709551616):∀u∈vs++[v],u.k<18446744073709551616:=λu hu=>by
 rcases List.mem_append.1 hu with c|c
 ·exact h u c
 ·simp only[List.mem_singleton] at c;subst c;exact hv
theorem jV {W:World}(h:WS W P B u1 u2 u3 u4 bs st)(g:Gd st)(v:Vl)(hv:1<=v.len/\v.len<=1000)(hvk:v.k<18446744073709551616)(p:Nat):
  Calls prog 78 #[.pointer (some ⟨P,0,none⟩),v.agg,.int .i64 (p:Int)] W (TrO W P B u1 u2 u3 u4 bs (fI st v p)):=by
 obtain⟨i0,hi,hz0,hz1,hz2⟩:=info_parts oh
 have hn:=g.n
 have HK2:Hid _:=pM g.k hvk
 have HL2:Hid _:=tU g.len hv
 have k1:=ez 0 0 W (fX v.op v.len v.a v.b v.c v.k)
 have HW1:Hid _:=h.keep k1
 have HM1:Hid (Mv (Mst P u1 u2 u3 u4) W (Mst P u1 u2 u3 u4) (W.alloc (fX v.op v.len v.a v.b v.c v.k))):=Mv.of k1
 have c1:=HW1.out.c1
 have hown:Hid _:=HW1.out.r2
 have fz:=HW1.out.fr 1
 have hv6:=lA W v
 obtain⟨v0,v1,v2,v3,v4,v5⟩:=hv6
 have hsz:(W.alloc (fX v.op v.len v.a v.b v.c v.k)).heap.size=W.heap.size+1:=by simp
 have HR:Hid (u2.ownBlock≠some P/\u2.ownBlock≠some W.heap.size):=⟨h.np.2.1,λe=>by have:=(eG h.r2 e).2;omega⟩
 have hPl:=h.lt
 have hBz:B<=W.heap.size:=by have:=h.sz;omega
 have HP:Hid (fI st v p=if ji (st.vs++[v])=true then .error (5,p) else .ok ({st with vs:=st.vs++[v]},st.vs.length)):=rfl
 generalize fI st v p=r at HP ⊢
 obtain⟨a2,cp2,hu2⟩:=iB h.r2
 clear h k1 g
 subst hu2
 generalize hN:st.vs.length=N at*
 have HN:Hid (st.vs.length=N):=hN
 clear hN
 go_enter func78,ntmps78
 go_wp2_with fail
 generalize hw1:W.alloc (fX v.op v.len v.a v.b v.c v.k)=w1 at c1 hown v0 v1 v2 v3 v4 v5 hsz fz HW1 HM1 ⊢
 have hb1:B<=w1.heap.size:=xaa
 have hP1:P<w1.heap.size:=xaa
 have hV1:W.heap.size<w1.heap.size:=xaa
 clear hsz hw1
 go_region_law
  ((refine step_append_lies _ rfl (.tmp 12) (.tmp 14) 24 rfl B 35 i0 (ib 0 0 0 0 0 0) 6 48 underlying24 hi hz0 hz1 hz2 rfl xab _ _ (fp st.vs) (by simp[Act.eval]) (jK hown.out 1 _) ⟨w1.heap.size,0,none⟩ 1 1 v.cells (by simp[Act.eval]) rfl (qn _ _ _) (uK v) xab (by unfold maxLen;omega) xaa yaf _ rfl ?_;intro g9 cap9 w9 hown9 hg9 hat9 hlt9;have s0:=jC hg9 hP1 HR.out.1 c1;have f0:=far2 hg9 hP1 HR.out.1 fz;have s1:=jC hg9 hV1 HR.out.2 v0;have s2:=jC hg9 hV1 HR.out.2 v1;have s3:=jC hg9 hV1 HR.out.2 v2;have s4:=jC hg9 hV1 HR.out.2 v3;have s5:=jC hg9 hV1 HR.out.2 v4;have s6:=jC hg9 hV1 HR.out.2 v5))
 all_goals
  have hat':=hat9.imp id (λe=>Nat.le_of_eq e.symm)
  have kd:=(ez 0 0 w1 (.cells #[.int .i64 v.op,.int .i64 v.len,.int .i64 v.a,.int .i64 v.b,.int .i64 v.c,.float .f64 v.k] 35)).trans (eK 0 0 _ 1)
  have hown9':w9.ownsRow B 35 6 (.slice (some ⟨g9,0,none⟩) (N+1) cap9) (N+1) (fp (st.vs++[v])):=by rw[jf,kz];exact hown9
  obtain⟨hWn,hMn⟩:=(HW1.out.keep kd).vals (gD hg9) (vs:=st.vs++[v]) (by rw[yak,HN.out];rfl) hown9' hat'
  have HWn:Hid _:=hWn
  have HMn:Hid _:=(HM1.out.keep kd).trans hMn
  clear hWn hMn hat' kd hown9 hown9' hg9 hat9 hlt9 s0 f0 s1 s2 s3 s4 s5 s6 v0 v1 v2 v3 v4 v5 fz c1 hown HW1 HM1
  generalize w9.setCell ⟨P,1,none⟩ (.slice (some ⟨g9,0,none⟩) (N+1) cap9)=w10 at HWn HMn ⊢
  obtain⟨a1,x1,a2',x2,a3,x3,e1,e2,e3,hgs⟩:=HWn.out.gs HK2.out
  simp only at e1 e3 hgs
  subst e1 e3
  have HF:Hid _:=uU w10 _ _ _ _ x1 _ x2 _ x3 _ _ _ hgs HL2.out
  have hlen2:(st.vs++[v]).length=N+1:=by rw[yak,HN.out];rfl
  have HLa:Hid (∀W',_):=λW'=>ir W' a1 a2' a3 st.ins.length x1 (N+1) x2 st.outs.length x3 xaa
  rw[hlen2] at HF e2
  clear hgs
  have y0:=HWn.out.c0
  have y1:=HWn.out.c1
  have y2:=HWn.out.c2
  cases e2
  cases hb:ji (st.vs++[v])
  ·rw[hb] at HF HP
   have HP2:Hid (r=.ok ({st with vs:=st.vs++[v]},N)):=HP.out.trans (if_neg xac)
   have HKp:Hid (∀W',Kept 0 0 w10 W'->W'.cell? ⟨P,0,none⟩=some (.slice a1 st.ins.length x1)/\W'.cell? ⟨P,1,none⟩=some (.slice (some ⟨g9,0,none⟩) (N+1) cap9)/\W'.cell? ⟨P,2,none⟩=some (.slice a3 st.outs.length x3)):=λW' k=>⟨(HWn.out.keep k).c0,(HWn.out.keep k).c1,(HWn.out.keep k).c2⟩
   clear hb HP
   go_wp2_with (first
    |(go_at_call 114;refine yai HF.out ?_;rintro e w11 ⟨rfl,k11⟩;obtain⟨q0,q1,q2⟩:=HKp.out w11 k11)
    |(go_at_call 27;refine yai (HLa.out _) ?_;rintro e w12 ⟨rfl,k12⟩))
   go_ret
   rw[HP2.out]
   exact⟨by simp,_,_,_,_,(HWn.out.keep k11).keep k12,(HMn.out.keep k11).keep k12⟩
  ·rw[hb] at HF HP
   have HP2:Hid (r=.error (5,p)):=HP.out.trans (if_pos rfl)
   have HSt:Hid (∀W',Kept 0 0 w10 W'->_):=λW' k=>iL (HWn.out.keep k).c5 (HWn.out.keep k).c6 (HWn.out.keep k).fr 5 p (Mst P (.slice a1 st.ins.length x1) (.slice (some ⟨g9,0,none⟩) (N+1) cap9) (.slice a3 st.outs.length x3) u4) (.inl rfl)
   clear hb HP
   go_wp2_with (first
    |(go_at_call 114;refine yai HF.out ?_;rintro e w11 ⟨rfl,k11⟩)
    |(go_at_call 74;refine yai (HSt.out _ k11) ?_;rintro e w12 ⟨rfl,hbad⟩))
   go_ret
   rw[HP2.out]
   exact⟨rfl,hbad.c5,hbad.c6,(HMn.out.keep k11).bad hbad.chg⟩
end
section
open Go.RowKit Flt
variable {ins:List Int} {vs0 vs us:List Vl} {st:LSt} {j n op c q:Int} {s i x k:Nat} {r:List Nat}
theorem Ay (h:ji vs=false):vs.length<=2000/\eX vs<=50000:=by
 unfold ji at h
 have:=of_decide_eq_false h
 omega
theorem Gd.put {st:LSt}(g:Gd st){v:Vl}(hv:okV st.ins (st.vs++[v]) st.vs.length=true)(hk:v.k<18446744073709551616)(hl:ji (st.vs++[v])=false):Gd {st with vs:=st.vs++[v]}:=by
 obtain⟨h1,h2⟩:=Ay hl
 refine⟨h1,h2,?_,pM g.k hk,g.i,g.o,g.m⟩
 rw[List.all_eq_true]
 intro i hi
 have hi':=List.mem_range.1 hi
 simp only[yak,List.length_singleton] at hi'
 by_cases c:i<st.vs.length
 ·exact oH c (List.all_eq_true.1 g.ok i (List.mem_range.2 c))
 ·obtain rfl:i=st.vs.length:=xaa
  exact hv
theorem Gd.lenB (g:Gd st)(h:i<st.vs.length):1<=eU st i/\eU st i<=1000:=g.len i h
theorem wo (ins:List Int)(vs:List Vl)(v:Vl)(h0:v.op≠0)(hl:1<=v.len/\v.len<=1000)(hs:f9 v=true)(ho:∀o∈eN v,0<=o/\o<(vs.length:Int))(hsh:eQ v.op v.len v.c ((eN v).map λo=>(vs.getD o.toNat Vl.zero).len)=true):okV ins (vs++[v]) vs.length=true:=by
 have hv:(vs++[v]).getD vs.length Vl.zero=v:=by
  exact xdn
 have hm:((eN v).map λo=>((vs++[v]).getD o.toNat Vl.zero).len)=((eN v).map λo=>(vs.getD o.toNat Vl.zero).len):=by
  apply List.map_congr_left
  intro o hmem
  have:=ho o hmem
  rw[yah,yas xaa,<-yah]
 unfold okV
 rw[hv,if_neg h0,hm,hsh,hs]
 have h1:lenB v.len=true:=decide_eq_true hl
 rw[h1]
 have h2:(eN v).all (fC · vs.length)=true:=by
  rw[List.all_eq_true]
  intro o hmem
  exact decide_eq_true (ho o hmem)
 simp[h2]
theorem qN (st:LSt)(xs:List Nat)(k:Nat)(h:k<xs.length):lk st (xs.take (k+1))=if lk st (xs.take k)<eU st (xs.getD k 0) then eU st (xs.getD k 0) else lk st (xs.take k):=by
 unfold lk
 rw[yat h,List.foldl_append,yah,yal h]
 rfl
theorem sj {st:LSt}(g:Gd st)(xs:List Nat)(hx:∀i∈xs,i<st.vs.length):∀k,k<=xs.length->1<=lk st (xs.take k)/\lk st (xs.take k)<=1000
 |0,_=>by rw[List.take_zero,show lk st []=1 from rfl];exact⟨by decide,by decide⟩
 |k+1,hk=>by
  have ih:=sj g xs hx k xaa
  have hm:xs.getD k 0∈xs:=by
   rw[yah,yal xaa]
   exact List.getElem_mem xaa
  have:=g.lenB (hx _ hm)
  rw[qN st xs k xaa]
  split<;>omega
def pN (js:List Nat)(r:Rs (LSt×List Nat)):Rs (LSt×List Nat):=
 match r with
 |.error f=>.error f
 |.ok (s,ks)=>.ok (s,js++ks)
theorem Az (r:Rs (LSt×List Nat)):pN [] r=r:=by
 cases r with
 |error f=>rfl
 |ok x=>rfl
theorem lJ {p:Nat}(h:¬eU st i<n):gS n p st (i::r)=pN [i] (gS n p st r):=by
 rw[gS,if_neg h]
 cases gS n p st r with
 |error f=>rfl
 |ok x=>rfl
theorem mr {p:Nat}{st1:LSt}{j:Nat}(h:eU st i<n)(hp:fI st (eI 10 n (i:Int) 0 0) p=.ok (st1,j)):gS n p st (i::r)=pN [j] (gS n p st1 r):=by
 rw[gS,if_pos h,hp]
 simp only
 cases gS n p st1 r with
 |error f=>rfl
 |ok x=>rfl
theorem ms {p:Nat}{f:Aq}(h:eU st i<n)(hp:fI st (eI 10 n (i:Int) 0 0) p=.error f):gS n p st (i::r)=.error f:=by
 rw[gS,if_pos h,hp]
theorem qO (a b:List Nat)(r:Rs (LSt×List Nat)):pN a (pN b r)=pN (a++b) r:=by
 cases r with
 |error f=>rfl
 |ok x=>simp[pN]
theorem CT (hi:i<st.vs.length)(h1:eU st i=1)(hn:1<=n/\n<=1000):okV st.ins (st.vs++[eI 10 n (i:Int) 0 0]) st.vs.length=true:=by
 refine wo _ _ _ (show(10:Int)≠0 by decide) hn (by rfl) ?_ ?_
 ·intro o ho
  have:o=(i:Int):=by simpa[eN,cnt] using ho
  omega
 ·have e:(eN (eI 10 n (i:Int) 0 0)).map (λo=>(st.vs.getD o.toNat Vl.zero).len)=[eU st i]:=by
   simp[eN,cnt,eU]
  rw[e,h1]
  simp[eQ]
def GVal (ins:List Int)(vs:List Vl):Prop:=(∀i,i<vs.length->okV ins vs i=true)/\∀v∈vs,v.k<18446744073709551616
def Ln (vs:List Vl)(j n:Int):Prop:=0<=j/\j<(vs.length:Int)/\(vs.getD j.toNat Vl.zero).len=n
theorem Ln.app (h:Ln vs j n)(us:List Vl):Ln (vs++us) j n:=by
 obtain⟨h1,h2,h3⟩:=h
 refine⟨h1,by rw[yak];omega,?_⟩
 rw[yah,yas xaa,<-yah]
 exact h3
theorem gN (vs:List Vl)(v:Vl)(hj:j=(vs.length:Int))(hv:v.len=n):Ln (vs++[v]) j n:=by
 subst hj
 refine⟨by omega,by rw[yak,List.length_singleton];omega,?_⟩
 rw[Int.toNat_natCast,yah,yar yad,Nat.sub_self]
 exact hv
theorem GVal.len (g:GVal ins vs)(h:Ln vs j n):1<=n/\n<=1000:=by
 obtain⟨h1,h2,h3⟩:=h
 have:=il (g.1 j.toNat xaa)
 rw[h3] at this
 exact this
theorem GVal.push (g:GVal ins vs)(v:Vl)(h0:v.op≠0)(hl:1<=v.len/\v.len<=1000)(hk:v.k<18446744073709551616)(hs:f9 v=true)(ho:∀o∈eN v,0<=o/\o<(vs.length:Int))(hsh:eQ v.op v.len v.c ((eN v).map λo=>(vs.getD o.toNat Vl.zero).len)=true):GVal ins (vs++[v]):=by
 refine⟨λi hi=>?_,pM g.2 hk⟩
 rw[yak,List.length_singleton] at hi
 by_cases c:i<vs.length
 ·exact oH c (g.1 i c)
 ·obtain rfl:i=vs.length:=xaa
  exact wo ins vs v h0 hl hs ho hsh
theorem GVal.p1 (g:GVal ins vs)(hn:1<=n/\n<=1000)(hk:k<18446744073709551616):GVal ins (vs++[⟨1,n,0,0,0,k⟩]):=
 g.push _ (by show(1:Int)≠0;decide) hn hk (by simp[f9,cnt,io]) (by intro o h;simp[eN,cnt] at h) (by simp[eN,cnt,eQ])
theorem GVal.z (g:GVal ins vs)(hn:1<=n/\n<=1000):GVal ins (vs++[eI 1 n 0 0 0]):=g.p1 hn xab
theorem GVal.two (g:GVal ins vs){p:Int}(ho:op=2\/op=3\/op=4\/op=5\/op=7)(hp:Ln vs p n)(hq:Ln vs q n):GVal ins (vs++[eI op n p q 0]):=by
 have hn:=g.len hp
 obtain⟨p1,p2,p3⟩:=hp
 rw[yah] at p3
 obtain⟨q1,q2,q3⟩:=hq
 rw[yah] at q3
 refine g.push _ (by show op≠0;omega) hn (by show(0:Nat)<_;decide) ?_ ?_ ?_
 ·rcases ho with rfl|rfl|rfl|rfl|rfl<;>simp[f9,cnt,io]
 ·rcases ho with rfl|rfl|rfl|rfl|rfl<;>(intro o h;simp[eN,cnt] at h;rcases h with rfl|rfl<;>exact⟨by assumption,by assumption⟩)
 ·rcases ho with rfl|rfl|rfl|rfl|rfl<;>simp[eN,cnt,eQ,p3,q3]
theorem GVal.one (g:GVal ins vs){p:Int}(ho:op=6\/op=13)(hp:Ln vs p n):GVal ins (vs++[eI op n p 0 0]):=by
 have hn:=g.len hp
 obtain⟨p1,p2,p3⟩:=hp
 rw[yah] at p3
 refine g.push _ (by show op≠0;omega) hn (by show(0:Nat)<_;decide) ?_ ?_ ?_
 ·rcases ho with rfl|rfl<;>simp[f9,cnt,io]
 ·rcases ho with rfl|rfl<;>(intro o h;simp[eN,cnt] at h;subst h;exact⟨p1,p2⟩)
 ·rcases ho with rfl|rfl<;>simp[eN,cnt,eQ,p3]
theorem GVal.sel (g:GVal ins vs){d p:Int}(hd:Ln vs d n)(hp:Ln vs p n)(hq:Ln vs q n):GVal ins (vs++[eI 8 n d p q]):=by
 have hn:=g.len hp
 obtain⟨d1,d2,d3⟩:=hd
 rw[yah] at d3
 obtain⟨p1,p2,p3⟩:=hp
 rw[yah] at p3
 obtain⟨q1,q2,q3⟩:=hq
 rw[yah] at q3
 refine g.push _ (by show(8:Int)≠0;decide) hn (by show(0:Nat)<_;decide) ?_ ?_ ?_
 ·simp[f9,cnt,io]
 ·intro o h;simp[eN,cnt] at h;rcases h with rfl|rfl|rfl<;>exact⟨by assumption,by assumption⟩
 ·simp[eN,cnt,eQ,d3,p3,q3]
theorem GVal.p9 (g:GVal ins vs){l p:Int}(hp:Ln vs p l):GVal ins (vs++[eI 9 1 p 0 0]):=by
 have hn:=g.len hp
 obtain⟨p1,p2,p3⟩:=hp
 rw[yah] at p3
 refine g.push _ (by show(9:Int)≠0;decide) ⟨by show(1:Int)<=1;decide,by show(1:Int)<=1000;decide⟩ (by show(0:Nat)<_;decide) ?_ ?_ ?_
 ·simp[f9,cnt,io]
 ·intro o h;simp[eN,cnt] at h;subst h;exact⟨p1,p2⟩
 ·simp[eN,cnt,eQ,p3,lenB,hn]
theorem GVal.p10 (g:GVal ins vs){p:Int}(hn:1<=n/\n<=1000)(hp:Ln vs p 1):GVal ins (vs++[eI 10 n p 0 0]):=by
 obtain⟨p1,p2,p3⟩:=hp
 rw[yah] at p3
 refine g.push _ (by show(10:Int)≠0;decide) hn (by show(0:Nat)<_;decide) ?_ ?_ ?_
 ·simp[f9,cnt,io]
 ·intro o h;simp[eN,cnt] at h;subst h;exact⟨p1,p2⟩
 ·simp[eN,cnt,eQ,p3]
theorem GVal.p11 (g:GVal ins vs){l p:Int}(hp:Ln vs p l)(hc:0<=c/\c<l):GVal ins (vs++[eI 11 1 p 0 c]):=by
 have hn:=g.len hp
 obtain⟨p1,p2,p3⟩:=hp
 rw[yah] at p3
 refine g.push _ (by show(11:Int)≠0;decide) ⟨by show(1:Int)<=1;decide,by show(1:Int)<=1000;decide⟩ (by show(0:Nat)<_;decide) ?_ ?_ ?_
 ·simp[f9,cnt,io]
 ·intro o h;simp[eN,cnt] at h;subst h;exact⟨p1,p2⟩
 ·simp[eN,cnt,eQ,p3,lenB,fC,hn,hc]
theorem GVal.p12 (g:GVal ins vs){p:Int}(hn:1<=n/\n<=1000)(hp:Ln vs p 1)(hc:0<=c/\c<n):GVal ins (vs++[eI 12 n p 0 c]):=by
 obtain⟨p1,p2,p3⟩:=hp
 rw[yah] at p3
 refine g.push _ (by show(12:Int)≠0;decide) hn (by show(0:Nat)<_;decide) ?_ ?_ ?_
 ·simp[f9,cnt,io]
 ·intro o h;simp[eN,cnt] at h;subst h;exact⟨p1,p2⟩
 ·simp[eN,cnt,eQ,p3,fC,hc]
def Put (ins:List Int)(vs:List Vl)(n:Int)(M:List Vl×Int):Prop:=GVal ins (vs++M.1)/\Ln (vs++M.1) M.2 n
def sp (ins:List Int)(vs:List Vl)(n:Int)(M:List Vl×Int):Prop:=GVal ins (vs++M.1)/\(M.2=-1\/Ln (vs++M.1) M.2 n)
theorem Put.o {M:List Vl×Int}(h:Put ins vs n M):sp ins vs n M:=⟨h.1,.inr h.2⟩
section
variable {ins:List Int} {vs:List Vl} {n r:Int}
theorem AA (g:GVal ins vs)(h:Ln vs r n):Put ins vs n ([],r):=⟨by simpa using g,by simpa using h⟩
theorem xW (g:GVal ins vs):sp ins vs n ([],-1):=⟨by simpa using g,.inl rfl⟩
theorem put1 {a:Vl}(g:GVal ins (vs++[a]))(h:a.len=n)(hr:r=(vs.length:Int)):Put ins vs n ([a],r):=⟨g,gN vs a hr h⟩
theorem put2 {a b:Vl}(g:GVal ins ((vs++[a])++[b]))(h:b.len=n)(hr:r=((vs.length+1:Nat):Int)):Put ins vs n ([a,b],r):=by
 have h2:=gN (vs++[a]) b (j:=r) (by rw[hr,yak];rfl) h
 rw[List.append_assoc] at g h2
 exact⟨g,h2⟩
theorem xX {a b c:Vl}(g:GVal ins (((vs++[a])++[b])++[c]))(h:c.len=n)(hr:r=((vs.length+2:Nat):Int)):Put ins vs n ([a,b,c],r):=by
 have h2:=gN ((vs++[a])++[b]) c (j:=r) (by rw[hr];simp) h
 simp only[List.append_assoc] at g h2
 exact⟨g,h2⟩
theorem I7 {a b c d:Vl}(g:GVal ins ((((vs++[a])++[b])++[c])++[d]))(h:d.len=n)(hr:r=((vs.length+3:Nat):Int)):Put ins vs n ([a,b,c,d],r):=by
 have h2:=gN (((vs++[a])++[b])++[c]) d (j:=r) (by rw[hr];simp) h
 simp only[List.append_assoc] at g h2
 exact⟨g,h2⟩
end
def iD (vs:List Vl)(j:Int):Int:=(vs.getD j.toNat Vl.zero).len
section
variable {ins:List Int} {vs:List Vl} {i:Nat} {v:Vl}
theorem jF (ok:okV ins vs i=true)(e:vs.getD i Vl.zero=v)(h0:v.op≠0):eQ v.op v.len v.c ((eN v).map λo=>iD vs o)=true/\f9 v=true:=by
 unfold okV at ok
 rw[e,if_neg h0,Bool.and_eq_true,Bool.and_eq_true,Bool.and_eq_true] at ok
 exact⟨ok.2.2,ok.1.2⟩
theorem mF (ok:okV ins vs i=true)(hi:i<vs.length)(e:vs.getD i Vl.zero=v){q:Nat}(hq:q<cnt v.op):Ln vs (fld v q) (iD vs (fld v q)):=by
 have h:=j6 ok q (by rw[e];exact hq)
 rw[e] at h
 exact⟨h.1,by omega,rfl⟩
theorem AB (ok:okV ins vs i=true)(_hi:i<vs.length)(e:vs.getD i Vl.zero=v)(ho:v.op=2\/v.op=3\/v.op=4\/v.op=5\/v.op=7):cnt v.op=2/\iD vs v.a=v.len/\iD vs v.b=v.len:=by
 have h:=(jF ok e xaa).1
 have hc:cnt v.op=2:=by rcases ho with c|c|c|c|c<;>(rw[c];rfl)
 exact xge
theorem su (ok:okV ins vs i=true)(e:vs.getD i Vl.zero=v)(ho:v.op=6\/v.op=13):cnt v.op=1/\iD vs v.a=v.len/\v.c=0:=by
 obtain⟨h,hs⟩:=jF ok e xaa
 have hc:cnt v.op=1:=by rcases ho with c|c<;>(rw[c];rfl)
 have hp:io v.op=false:=yax xaa
 refine⟨hc,?_,?_⟩
 ·exact xet
 ·unfold f9 at hs
  rw[hc,hp] at hs
  simp at hs
  exact hs.2
theorem AC (ok:okV ins vs i=true)(e:vs.getD i Vl.zero=v)(ho:v.op=8):cnt v.op=3/\iD vs v.a=v.len/\iD vs v.b=v.len/\iD vs v.c=v.len:=by
 have h:=(jF ok e xaa).1
 have hc:cnt v.op=3:=by rw[ho];rfl
 exact xge
theorem Ir (ok:okV ins vs i=true)(e:vs.getD i Vl.zero=v)(ho:v.op=9):cnt v.op=1/\v.len=1/\v.c=0:=by
 obtain⟨h,hs⟩:=jF ok e xaa
 have hc:cnt v.op=1:=by rw[ho];rfl
 have hp:io v.op=false:=yax xaa
 refine⟨hc,?_,?_⟩
 ·unfold eQ at h
  rw[if_pos ho] at h
  simp at h
  exact h.1
 ·unfold f9 at hs
  rw[hc,hp] at hs
  simp at hs
  exact hs.2
theorem ER (ok:okV ins vs i=true)(e:vs.getD i Vl.zero=v)(ho:v.op=10):cnt v.op=1/\iD vs v.a=1/\v.c=0:=by
 obtain⟨h,hs⟩:=jF ok e xaa
 have hc:cnt v.op=1:=by rw[ho];rfl
 have hp:io v.op=false:=yax xaa
 refine⟨hc,?_,?_⟩
 ·rw[eN,hc] at h
  unfold eQ at h
  rw[if_neg xaa,if_pos ho] at h
  simpa using h
 ·unfold f9 at hs
  rw[hc,hp] at hs
  simp at hs
  exact hs.2
theorem ES (ok:okV ins vs i=true)(e:vs.getD i Vl.zero=v)(ho:v.op=11):cnt v.op=1/\v.len=1/\0<=v.c/\v.c<iD vs v.a:=by
 have h:=(jF ok e xaa).1
 have hc:cnt v.op=1:=by rw[ho];rfl
 refine⟨hc,?_⟩
 rw[eN,hc] at h
 unfold eQ at h
 rw[if_neg xaa,if_neg xaa,if_pos ho] at h
 simp[fC] at h
 exact⟨h.1.1,h.2⟩
theorem ET (ok:okV ins vs i=true)(e:vs.getD i Vl.zero=v)(ho:v.op=12):cnt v.op=1/\iD vs v.a=1/\0<=v.c/\v.c<v.len:=by
 have h:=(jF ok e xaa).1
 have hc:cnt v.op=1:=by rw[ho];rfl
 refine⟨hc,?_⟩
 rw[eN,hc] at h
 unfold eQ at h
 rw[if_neg xaa,if_neg xaa,if_neg xaa,if_pos ho] at h
 simp[fC] at h
 exact h
theorem AD (ok:okV ins vs i=true)(e:vs.getD i Vl.zero=v):v.op=0\/(1<=v.op/\v.op<=13):=by
 by_cases h0:v.op=0
 ·exact .inl h0
 ·have h:=(jF ok e h0).1
  by_cases c:1<=v.op/\v.op<=13
  ·exact .inr c
  ·unfold eQ at h
   rw[if_neg xaa,if_neg xaa,if_neg xaa,if_neg xaa,if_neg c] at h
   exact absurd h xac
theorem CU (g:GVal ins vs){n p q:Int}(hp:p=-1\/Ln vs p n)(hq:q=-1\/Ln vs q n):sp ins vs n (s8 n p q vs.length):=by
 unfold s8
 by_cases c:p=-1
 ·rw[if_pos c]
  rcases hq with rfl|hq
  ·exact xW g
  ·exact(AA g hq).o
 ·have hp':=hp.resolve_left c
  rw[if_neg c]
  by_cases d:q=-1
  ·rw[if_pos d];exact(AA g hp').o
  ·rw[if_neg d];exact(put1 (g.two (.inl rfl) hp' (hq.resolve_left d)) rfl rfl).o
theorem CV (g:GVal ins vs){n p q:Int}(hp:p=-1\/Ln vs p n)(hq:q=-1\/Ln vs q n):sp ins vs n (s9 n p q vs.length):=by
 unfold s9
 by_cases d:q=-1
 ·rw[if_pos d]
  rcases hp with rfl|hp
  ·exact xW g
  ·exact(AA g hp).o
 ·have hq':=hq.resolve_left d
  rw[if_neg d]
  by_cases c:p=-1
  ·rw[if_pos c];exact(put1 (g.one (.inl rfl) hq') rfl rfl).o
  ·rw[if_neg c];exact(put1 (g.two (.inr (.inl rfl)) (hp.resolve_left c) hq') rfl rfl).o
theorem AE (g:GVal ins vs){n d p q:Int}(hd:Ln vs d n)(hp:p=-1\/Ln vs p n)(hq:q=-1\/Ln vs q n):Put ins vs n (chM n d p q vs.length):=by
 have hn:=g.len hd
 have z:=g.z hn
 have l0:Ln (vs++[eI 1 n 0 0 0]) (vs.length:Int) n:=gN _ _ rfl rfl
 unfold chM
 by_cases c:p=-1
 ·rw[if_pos c]
  by_cases e:q=-1
  ·rw[if_pos e]
   exact xX ((z.z hn).sel ((hd.app _).app _) (l0.app _) (gN _ _ xac rfl)) rfl rfl
  ·rw[if_neg e]
   exact put2 (z.sel (hd.app _) l0 ((hq.resolve_left e).app _)) rfl rfl
 ·have hp':=hp.resolve_left c
  rw[if_neg c]
  by_cases e:q=-1
  ·rw[if_pos e]
   exact put2 (z.sel (hd.app _) (hp'.app _) l0) rfl rfl
  ·rw[if_neg e]
   exact put1 (g.sel hd hp' (hq.resolve_left e)) rfl rfl
end
section
variable {ins:List Int} {vs:List Vl} {i:Nat} {v:Vl}
theorem CW (g:GVal ins vs){p q:Int}(ha:Ln vs v.a v.len)(hb:Ln vs v.b v.len)(hp:p=-1\/Ln vs p v.len)(hq:q=-1\/Ln vs q v.len):sp ins vs v.len (th v p q vs.length):=by
 have o4:(4:Int)=2\/(4:Int)=3\/(4:Int)=4\/(4:Int)=5\/(4:Int)=7:=xab
 unfold th
 by_cases c:p=-1
 ·rw[if_pos c]
  by_cases d:q=-1
  ·rw[if_pos d];exact xW g
  ·rw[if_neg d];exact(put1 (g.two o4 ha (hq.resolve_left d)) rfl rfl).o
 ·have hp':=hp.resolve_left c
  rw[if_neg c]
  have g1:=g.two o4 hp' hb
  by_cases d:q=-1
  ·rw[if_pos d];exact(put1 g1 rfl rfl).o
  ·rw[if_neg d]
   have hq':=hq.resolve_left d
   have g2:=g1.two o4 (ha.app _) (hq'.app _)
   exact(xX (g2.two (.inl rfl) ((gN _ _ rfl rfl).app _) (gN _ _ xac rfl)) rfl rfl).o
theorem CX (g:GVal ins vs){p q:Int}{i:Int}(hi:Ln vs i v.len)(hb:Ln vs v.b v.len)(hp:p=-1\/Ln vs p v.len)(hq:q=-1\/Ln vs q v.len):sp ins vs v.len (tr i v p q vs.length):=by
 have o4:(4:Int)=2\/(4:Int)=3\/(4:Int)=4\/(4:Int)=5\/(4:Int)=7:=xab
 have o5:(5:Int)=2\/(5:Int)=3\/(5:Int)=4\/(5:Int)=5\/(5:Int)=7:=xab
 have o3:(3:Int)=2\/(3:Int)=3\/(3:Int)=4\/(3:Int)=5\/(3:Int)=7:=xab
 unfold tr
 by_cases c:p=-1
 ·rw[if_pos c]
  by_cases d:q=-1
  ·rw[if_pos d];exact xW g
  ·rw[if_neg d]
   have g1:=g.two o4 hi (hq.resolve_left d)
   have g2:=g1.two o5 (gN _ _ rfl rfl) (hb.app _)
   exact(xX (g2.one (.inl rfl) (gN _ _ xac rfl)) rfl rfl).o
 ·have hp':=hp.resolve_left c
  rw[if_neg c]
  have g1:=g.two o5 hp' hb
  by_cases d:q=-1
  ·rw[if_pos d];exact(put1 g1 rfl rfl).o
  ·rw[if_neg d]
   have g2:=g1.two o4 (hi.app _) ((hq.resolve_left d).app _)
   have g3:=g2.two (p:=((vs.length+1:Nat):Int)) o5 (gN _ _ xac rfl) ((hb.app _).app _)
   exact(I7 (g3.two o3 (((gN _ _ rfl rfl).app _).app _) (gN _ _ xac rfl)) rfl rfl).o
theorem wu (hi:i<vs.length)(e:vs.getD i Vl.zero=v):Ln vs (i:Int) v.len:=⟨by omega,by omega,by rw[Int.toNat_natCast,e]⟩
theorem Gh (g:GVal ins vs)(hi:i<vs.length)(e:vs.getD i Vl.zero=v)(t:Nat->Int)(ht:∀q,q<cnt v.op->t q=-1\/Ln vs (t q) (iD vs (fld v q)))(hn:∀q,cnt v.op<=q->t q=-1):sp ins vs v.len (mvM (i:Int) v (t 0) (t 1) (t 2) vs.length):=by
 have ok:=g.1 i hi
 have hl:1<=v.len/\v.len<=1000:=by rw[<-e];exact il ok
 have hs:=wu hi e
 unfold mvM
 by_cases c0:t 0=-1/\t 1=-1/\t 2=-1
 ·rw[if_pos c0];exact xW g
 rw[if_neg c0]
 have key2:v.op=2\/v.op=3\/v.op=4\/v.op=5\/v.op=7->Ln vs v.a v.len/\Ln vs v.b v.len/\(t 0=-1\/Ln vs (t 0) v.len)/\(t 1=-1\/Ln vs (t 1) v.len):=λho=>by
  obtain⟨hc,ha,hb⟩:=AB ok hi e ho
  have f0:=mF ok hi e (q:=0) xaa
  have f1:=mF ok hi e (q:=1) xaa
  have t0:=ht 0 xaa
  have t1:=ht 1 xaa
  rw[show fld v 0=v.a from rfl,ha] at f0 t0
  rw[show fld v 1=v.b from rfl,hb] at f1 t1
  exact⟨f0,f1,t0,t1⟩
 have key1:cnt v.op=1->Ln vs (t 0) (iD vs v.a):=λhc=>by
  have t1:=hn 1 xaa
  have t2:=hn 2 xaa
  exact(ht 0 xaa).resolve_left (λc=>c0 ⟨c,t1,t2⟩)
 by_cases h2:v.op=2
 ·rw[if_pos h2]
  obtain⟨_,_,k1,k2⟩:=key2 xaa
  exact CU g k1 k2
 rw[if_neg h2]
 by_cases h3:v.op=3
 ·rw[if_pos h3]
  obtain⟨_,_,k1,k2⟩:=key2 xaa
  exact CV g k1 k2
 rw[if_neg h3]
 by_cases h4:v.op=4
 ·rw[if_pos h4]
  obtain⟨ka,kb,k1,k2⟩:=key2 xaa
  exact CW g ka kb k1 k2
 rw[if_neg h4]
 by_cases h5:v.op=5
 ·rw[if_pos h5]
  obtain⟨ka,kb,k1,k2⟩:=key2 xaa
  exact CX g hs kb k1 k2
 rw[if_neg h5]
 by_cases h7:v.op=7
 ·rw[if_pos h7]
  obtain⟨ka,kb,k1,k2⟩:=key2 xaa
  have g1:=g.two (.inr (.inl rfl)) ka kb
  have h:=AE g1 (d:=(vs.length:Int)) (gN _ _ rfl rfl) (k1.imp id (λh=>h.app _)) (k2.imp id (λh=>h.app _))
  rw[yak,List.length_singleton] at h
  unfold Put at h
  rw[List.append_assoc] at h
  exact Put.o h
 rw[if_neg h7]
 by_cases h8:v.op=8
 ·rw[if_pos h8]
  obtain⟨hc,ha,hb,hcc⟩:=AC ok e h8
  have f0:=mF ok hi e (q:=0) xaa
  have t1:=ht 1 xaa
  have t2:=ht 2 xaa
  rw[show fld v 0=v.a from rfl,ha] at f0
  rw[show fld v 1=v.b from rfl,hb] at t1
  rw[show fld v 2=v.c from rfl,hcc] at t2
  by_cases c:t 1=-1/\t 2=-1
  ·rw[if_pos c];exact xW g
  ·rw[if_neg c];exact(AE g f0 t1 t2).o
 rw[if_neg h8]
 by_cases h13:v.op=13
 ·rw[if_pos h13]
  obtain⟨hc,ha,hcc⟩:=su ok e (.inr h13)
  have k:=key1 hc
  rw[ha] at k
  exact(put1 (g.two (.inr (.inr (.inl rfl))) k hs) rfl rfl).o
 rw[if_neg h13]
 rcases AD ok e with h0|h1
 ·have hc:cnt v.op=0:=by rw[h0];rfl
  exact absurd ⟨hn 0 xaa,hn 1 xaa,hn 2 xaa⟩ c0
 by_cases h6:v.op=6
 ·obtain⟨hc,ha,hcc⟩:=su ok e (.inl h6)
  have k:=key1 hc
  rw[ha] at k
  rw[h6,hcc]
  exact(put1 (g.one (.inl rfl) k) rfl rfl).o
 by_cases h9:v.op=9
 ·obtain⟨hc,ha,hcc⟩:=Ir ok e h9
  have k:=key1 hc
  rw[h9,hcc,ha]
  exact(put1 (g.p9 k) rfl rfl).o
 by_cases h10:v.op=10
 ·obtain⟨hc,ha,hcc⟩:=ER ok e h10
  have k:=key1 hc
  rw[ha] at k
  rw[h10,hcc]
  exact(put1 (g.p10 hl k) rfl rfl).o
 by_cases h11:v.op=11
 ·obtain⟨hc,ha,hcc⟩:=ES ok e h11
  have k:=key1 hc
  rw[h11,ha]
  exact(put1 (g.p11 k hcc) rfl rfl).o
 by_cases h12:v.op=12
 ·obtain⟨hc,ha,hcc⟩:=ET ok e h12
  have k:=key1 hc
  rw[ha] at k
  rw[h12]
  exact(put1 (g.p12 hl k hcc) rfl rfl).o
 have hc:cnt v.op=0:=by rw[show v.op=1 by omega];rfl
 exact absurd ⟨hn 0 xaa,hn 1 xaa,hn 2 xaa⟩ c0
theorem CY (g:GVal ins vs)(hi:i<vs.length)(e:vs.getD i Vl.zero=v){k:Nat}(hk:k<cnt v.op)(hb:me v k=true){d:Int}(hd:Ln vs d v.len):Put ins vs (iD vs (fld v k)) (kS (i:Int) v (iD vs v.a) k d vs.length):=by
 have ok:=g.1 i hi
 have hl:1<=v.len/\v.len<=1000:=by rw[<-e];exact il ok
 have hs:=wu hi e
 have o4:(4:Int)=2\/(4:Int)=3\/(4:Int)=4\/(4:Int)=5\/(4:Int)=7:=xab
 have o5:(5:Int)=2\/(5:Int)=3\/(5:Int)=4\/(5:Int)=5\/(5:Int)=7:=xab
 have o3:(3:Int)=2\/(3:Int)=3\/(3:Int)=4\/(3:Int)=5\/(3:Int)=7:=xab
 have key2:v.op=2\/v.op=3\/v.op=4\/v.op=5\/v.op=7->Ln vs v.a v.len/\Ln vs v.b v.len/\iD vs (fld v k)=v.len/\k<2:=λho=>by
  obtain⟨hc,ha,hbb⟩:=AB ok hi e ho
  have f0:=mF ok hi e (q:=0) xaa
  have f1:=mF ok hi e (q:=1) xaa
  rw[show fld v 0=v.a from rfl,ha] at f0
  rw[show fld v 1=v.b from rfl,hbb] at f1
  refine⟨f0,f1,?_,by omega⟩
  rcases (by omega:k=0\/k=1) with rfl|rfl
  ·exact ha
  ·exact hbb
 have key1:cnt v.op=1->fld v k=v.a:=λhc=>by
  obtain rfl:k=0:=xaa
  rfl
 unfold kS
 by_cases h2:v.op=2
 ·rw[if_pos h2,(key2 xaa).2.2.1]
  exact AA g hd
 rw[if_neg h2]
 by_cases h3:v.op=3
 ·rw[if_pos h3,(key2 xaa).2.2.1]
  by_cases c:k=0
  ·rw[if_pos c];exact AA g hd
  ·rw[if_neg c];exact put1 (g.one (.inl rfl) hd) rfl rfl
 rw[if_neg h3]
 by_cases h4:v.op=4
 ·obtain⟨ka,kb,kl,_⟩:=key2 xaa
  rw[if_pos h4,kl]
  by_cases c:k=0
  ·rw[if_pos c];exact put1 (g.two o4 hd kb) rfl rfl
  ·rw[if_neg c];exact put1 (g.two o4 hd ka) rfl rfl
 rw[if_neg h4]
 by_cases h5:v.op=5
 ·obtain⟨ka,kb,kl,_⟩:=key2 xaa
  rw[if_pos h5,kl]
  by_cases c:k=0
  ·rw[if_pos c];exact put1 (g.two o5 hd kb) rfl rfl
  ·rw[if_neg c]
   have g1:=g.two o4 hd hs
   have g2:=g1.two o5 (gN _ _ rfl rfl) (kb.app _)
   exact xX (g2.one (.inl rfl) (gN _ _ xac rfl)) rfl rfl
 rw[if_neg h5]
 by_cases h6:v.op=6
 ·obtain⟨hc,ha,_⟩:=su ok e (.inl h6)
  rw[if_pos h6,key1 hc,ha]
  exact put1 (g.one (.inl rfl) hd) rfl rfl
 rw[if_neg h6]
 by_cases h13:v.op=13
 ·obtain⟨hc,ha,_⟩:=su ok e (.inr h13)
  rw[if_pos h13,key1 hc,ha]
  exact put1 (g.two o4 hd hs) rfl rfl
 rw[if_neg h13]
 by_cases h8:v.op=8
 ·obtain⟨hc,ha,hb',hcc⟩:=AC ok e h8
  have f0:=mF ok hi e (q:=0) xaa
  rw[show fld v 0=v.a from rfl,ha] at f0
  have k0:k≠0:=λc=>by subst c;simp[me,h8] at hb
  have kl:iD vs (fld v k)=v.len:=by
   rcases (by omega:k=1\/k=2) with rfl|rfl
   ·exact hb'
   ·exact hcc
  rw[if_pos h8,kl]
  have z:=g.z hl
  have l0:Ln (vs++[eI 1 v.len 0 0 0]) (vs.length:Int) v.len:=gN _ _ rfl rfl
  by_cases c:k=1
  ·rw[if_pos c];exact put2 (z.sel (f0.app _) (hd.app _) l0) rfl rfl
  ·rw[if_neg c];exact put2 (z.sel (f0.app _) l0 (hd.app _)) rfl rfl
 rw[if_neg h8]
 by_cases h7:v.op=7
 ·obtain⟨ka,kb,kl,_⟩:=key2 xaa
  rw[if_pos h7,kl]
  have g1:=g.two o3 ka kb
  have l0:Ln (vs++[eI 3 v.len v.a v.b 0]) (vs.length:Int) v.len:=gN _ _ rfl rfl
  have g2:=g1.z hl
  have l1:Ln ((vs++[eI 3 v.len v.a v.b 0])++[eI 1 v.len 0 0 0]) ((vs.length+1:Nat):Int) v.len:=gN _ _ xac rfl
  by_cases c:k=0
  ·rw[if_pos c];exact xX (g2.sel (l0.app _) ((hd.app _).app _) l1) rfl rfl
  ·rw[if_neg c];exact xX (g2.sel (l0.app _) l1 ((hd.app _).app _)) rfl rfl
 rw[if_neg h7]
 have hla:cnt v.op=1->1<=iD vs v.a/\iD vs v.a<=1000:=λhc=>g.len (mF ok hi e (q:=0) xaa)
 by_cases h9:v.op=9
 ·obtain⟨hc,ha,_⟩:=Ir ok e h9
  rw[if_pos h9,key1 hc]
  rw[ha] at hd
  exact put1 (g.p10 (hla hc) hd) rfl rfl
 rw[if_neg h9]
 by_cases h10:v.op=10
 ·obtain⟨hc,ha,_⟩:=ER ok e h10
  rw[if_pos h10,key1 hc,ha]
  exact put1 (g.p9 hd) rfl rfl
 rw[if_neg h10]
 by_cases h11:v.op=11
 ·obtain⟨hc,ha,hcc⟩:=ES ok e h11
  rw[if_pos h11,key1 hc]
  rw[ha] at hd
  exact put1 (g.p12 (hla hc) hd hcc) rfl rfl
 rw[if_neg h11]
 rcases AD ok e with h0|h1
 ·rw[h0] at hk;exact absurd hk (by simp[cnt])
 by_cases h12:v.op=12
 ·obtain⟨hc,ha,hcc⟩:=ET ok e h12
  rw[key1 hc,ha]
  exact put1 (g.p11 hd hcc) rfl rfl
 ·rw[show v.op=1 by omega] at hk
  exact absurd hk (by simp[cnt])
end
structure GIv (ins:List Int)(vs0:List Vl)(st:List Vl×List Int):Prop where
 g:GVal ins st.1
 p:Pre vs0 st.1
 l:st.2.length=vs0.length
 m:∀q,q<vs0.length->st.2.getD q 0=-1\/Ln st.1 (st.2.getD q 0) (iD vs0 (q:Int))
theorem iC (vs:List Vl)(q:Nat):iD vs (q:Int)=(vs.getD q Vl.zero).len:=by unfold iD;rw[Int.toNat_natCast]
theorem pO (p:Pre vs0 us)(h0:0<=j)(h1:j<(vs0.length:Int)):iD us j=iD vs0 j:=by
 unfold iD
 rw[(p.at_ (j:=j.toNat) xaa).1]
theorem qP (l:List Int)(i:Nat)(x:Int)(h:i<l.length):(l.set i x).getD i 0=x:=by
 rw[yah,List.getElem?_set_self h];rfl
theorem l5 (l:List Int)(i q:Nat)(x:Int)(h:i≠q):(l.set i x).getD q 0=l.getD q 0:=by
 exact xiq
theorem GIv.put {ins:List Int}{vs0:List Vl}{st:List Vl×List Int}(h:GIv ins vs0 st){i:Nat}(hi:i<vs0.length){M:List Vl×Int}(hM:sp ins st.1 (iD vs0 (i:Int)) M):GIv ins vs0 (st.1++M.1,st.2.set i M.2):=by
 refine⟨hM.1,h.p.app,by rw[List.length_set];exact h.l,λq hq=>?_⟩
 by_cases c:i=q
 ·subst c
  simp only
  rw[qP _ _ _ (by rw[h.l];exact hi)]
  exact hM.2
 ·simp only
  rw[l5 _ _ _ _ c]
  exact(h.m q hq).imp id (λx=>x.app _)
theorem sw (n q:Nat)(h:q<n):(List.replicate n (-1:Int)).getD q 0=-1:=by
 rw[yah,List.getElem?_replicate,if_pos h];rfl
theorem qQ (g:GVal ins (vs0++us))(hx:x<vs0.length){t:Int}(ht:Ln (vs0++us) t (iD vs0 (x:Int))):GIv ins vs0 (vs0++us,(List.replicate vs0.length (-1)).set x t):=by
 refine⟨g,⟨us,rfl⟩,by rw[List.length_set,List.length_replicate],λq hq=>?_⟩
 by_cases c:x=q
 ·subst c
  simp only
  rw[qP _ _ _ (by rw[List.length_replicate];exact hx)]
  exact .inr ht
 ·simp only
  rw[l5 _ _ _ _ c,sw _ _ hq]
  exact .inl rfl
theorem tV {ins:List Int}{vs0:List Vl}(g:GVal ins vs0){x t:Nat}(ht:Ln vs0 (t:Int) (iD vs0 (x:Int))):∀k,x+k<vs0.length->GIv ins vs0 (jst vs0 x t k)
 |0,hk=>by
  have h:=qQ (us:=[]) (ins:=ins) (vs0:=vs0) (x:=x) (t:=(t:Int)) (by simpa using g) xaa (by simpa using ht)
  rw[List.append_nil] at h
  exact h
 |k+1,hk=>by
  have ih:=tV g ht k xaa
  have hi:x+1+k<vs0.length:=xaa
  have e:(jst vs0 x t k).1.getD (x+1+k) Vl.zero=vs0.getD (x+1+k) Vl.zero:=(ih.p.at_ hi).1
  have hM:=Gh ih.g (ih.p.at_ hi).2 e (ovs (vs0.getD (x+1+k) Vl.zero) (jst vs0 x t k).2 (cnt (vs0.getD (x+1+k) Vl.zero).op)) (λq hq=>?_) (λq hq=>by unfold ovs;rw[if_neg xaa])
  ·rw[<-iC] at hM
   exact ih.put hi hM
  ·have ho:=j6 (g.1 _ hi) q hq
   unfold ovs
   rw[if_pos hq,pO ih.p ho.1 xaa]
   have hm:=ih.m (fld (vs0.getD (x+1+k) Vl.zero) q).toNat xaa
   rw[Int.toNat_of_nonneg ho.1] at hm
   exact hm
theorem kJ (g:GVal ins vs){t:Nat}(hs:s<vs.length)(hx:x<vs.length)(ht:Ln vs (t:Int) (iD vs (x:Int))):GVal ins (iy vs s x t).1/\Ln (iy vs s x t).1 (iy vs s x t).2 (iD vs (s:Int))/\Pre vs (iy vs s x t).1:=by
 have h:=tV g ht (s-x) xaa
 have hl:=il (g.1 s hs)
 unfold iy
 by_cases c:(jst vs x t (s-x)).2.getD s 0=-1
 ·rw[if_pos c]
  exact⟨h.g.z hl,gN _ _ rfl (iC _ _).symm,h.p.app⟩
 ·rw[if_neg c]
  exact⟨h.g,(h.m s hs).resolve_left c,h.p⟩
theorem CZ (g:GVal ins vs0){act:List Bool}(hi:i<vs0.length)(hk:k<cnt (vs0.getD i Vl.zero).op){st:List Vl×List Int}(h:GIv ins vs0 st)(hd:st.2.getD i 0≠-1):GIv ins vs0 (gkM vs0 act i k st)/\(gkM vs0 act i k st).2.getD i 0=st.2.getD i 0:=by
 unfold gkM
 by_cases c:act.getD (fld (vs0.getD i Vl.zero) k).toNat false=true/\me (vs0.getD i Vl.zero) k=true
 ·rw[if_pos c]
  have ho:=j6 (g.1 i hi) k hk
  have h0:=j6 (g.1 i hi) 0 xaa
  have e:st.1.getD i Vl.zero=vs0.getD i Vl.zero:=(h.p.at_ hi).1
  have hdl:=(h.m i hi).resolve_left hd
  rw[iC] at hdl
  have hP:=CY h.g (h.p.at_ hi).2 e hk c.2 hdl
  rw[pO h.p ho.1 xaa,show iD st.1 (vs0.getD i Vl.zero).a=laM vs0 i from pO h.p h0.1 (by have:(vs0.getD i Vl.zero).a<(i:Int):=h0.2;omega)] at hP
  generalize kS (i:Int) (vs0.getD i Vl.zero) (laM vs0 i) k (st.2.getD i 0) st.1.length=M at hP
  generalize hov:fld (vs0.getD i Vl.zero) k=ov at ho hP
  obtain⟨o,rfl⟩:=Int.eq_ofNat_of_zero_le ho.1
  have hoi:o<i:=xaa
  rw[Int.toNat_natCast]
  unfold j7
  simp only
  by_cases d:st.2.getD o 0=-1
  ·rw[if_pos d]
   refine⟨h.put xaa hP.o,?_⟩
   simp only
   rw[l5 _ _ _ _ xaa]
  ·rw[if_neg d]
   have ho2:=((h.m o xaa).resolve_left d).app M.1
   have g2:=hP.1.two (op:=2) (.inl rfl) ho2 hP.2
   have h2:sp ins st.1 (iD vs0 (o:Int)) (M.1++[eI 2 (iD vs0 (o:Int)) (st.2.getD o 0) M.2 0],((st.1++M.1).length:Int)):=by
    refine⟨by rw[<-List.append_assoc];exact g2,.inr ?_⟩
    simp only
    rw[<-List.append_assoc]
    exact gN _ _ rfl rfl
   have h3:=h.put xaa h2
   rw[iC] at h3
   simp only at h3
   rw[<-List.append_assoc] at h3
   refine⟨h3,?_⟩
   simp only
   rw[l5 _ _ _ _ xaa]
 ·rw[if_neg c]
  exact⟨h,rfl⟩
theorem qR {ins:List Int}{vs0:List Vl}(g:GVal ins vs0){act:List Bool}{i:Nat}(hi:i<vs0.length){st:List Vl×List Int}(h:GIv ins vs0 st)(hd:st.2.getD i 0≠-1):∀k,k<=cnt (vs0.getD i Vl.zero).op->GIv ins vs0 (iS vs0 act i st k)/\(iS vs0 act i st k).2.getD i 0=st.2.getD i 0
 |0,_=>⟨h,rfl⟩
 |k+1,hk=>by
  obtain⟨h1,h2⟩:=qR g hi h hd k xaa
  obtain⟨h3,h4⟩:=CZ g (act:=act) hi hk h1 (by rw[h2];exact hd)
  exact⟨h3,h4.trans h2⟩
theorem tW {ins:List Int}{vs0:List Vl}(g:GVal ins vs0){act:List Bool}{s:Nat}(hs:s<vs0.length)(h1:(vs0.getD s Vl.zero).len=1):∀j,GIv ins vs0 (gdn vs0 act s j)
 |0=>qQ (g.p1 ⟨by decide,by decide⟩ xab) hs (gN _ _ rfl (by rw[iC,h1]))
 |j+1=>by
  have ih:=tW (act:=act) g hs h1 j
  show GIv ins vs0 (giM vs0 act (s-j) (gdn vs0 act s j))
  unfold giM
  by_cases c:(gdn vs0 act s j).2.getD (s-j) 0=-1
  ·rw[if_pos c];exact ih
  ·rw[if_neg c];exact(qR g xaa ih c _ yad).1
theorem tX (g:GVal ins vs)(hs:s<vs.length)(hx:x<vs.length)(h1:(vs.getD s Vl.zero).len=1):GVal ins (grM vs s x).1/\Ln (grM vs s x).1 (grM vs s x).2 (iD vs (x:Int))/\Pre vs (grM vs s x).1:=by
 have hl:=il (g.1 x hx)
 unfold grM
 by_cases c:(ij vs x (s-x)).getD s false=true
 ·rw[if_pos c]
  unfold zu
  rw[pr _ _ _ _ _ yad]
  have h:=tW (act:=ij vs x (s-x)) g hs h1 (s-x)
  unfold FF
  by_cases d:(gdn vs (ij vs x (s-x)) s (s-x)).2.getD x 0=-1
  ·rw[if_pos d]
   exact⟨h.g.z hl,gN _ _ rfl (iC _ _).symm,h.p.app⟩
  ·rw[if_neg d]
   exact⟨h.g,(h.m x hx).resolve_left d,h.p⟩
 ·rw[if_neg c]
  exact⟨g.z hl,gN _ _ rfl (iC _ _).symm,⟨_,rfl⟩⟩
end
section
open Go.RowKit Flt
attribute [local go_sem] eD eB eA
variable {P B n:Nat} {u1 u2 u3 u4:Value} {a:Option Addr} {bs:List Bc} {st:LSt} {s:List UInt8}
structure LcR (M:Nat->Prop)(W:World)(a:Option Addr)(n:Nat)(loc:Loc):Prop where
 len:loc.length=n
 at_:0<n->∃g off,a=some ⟨g,off,none⟩/\¬M g/\g<W.heap.size/\∀k,k<n->W.cell? ⟨g,off+k*2,none⟩=some (eE (loc.getD k ([],0)).1)/\W.cell? ⟨g,off+k*2+1,none⟩=some (.int .i64 ((loc.getD k ([],0)).2:Int))
theorem LcR.mv {M M':Nat->Prop}{W W':World}{loc:Loc}(h:LcR M W a n loc)(k:Mv M W M' W'):LcR M' W' a n loc:=
 ⟨h.len,λhn=>by
  obtain⟨g,off,e,h1,h2,h3⟩:=h.at_ hn
  exact⟨g,off,e,λc=>(k.new g c).elim h1 (λc=>by omega),yaj h2 k.chg.size,λj hj=>⟨(k.chg.cell (p:=⟨g,off+j*2,none⟩) h2 h1).trans (h3 j hj).1,(k.chg.cell (p:=⟨g,off+j*2+1,none⟩) h2 h1).trans (h3 j hj).2⟩⟩⟩
theorem LcR.keep {M:Nat->Prop}{W W':World}{loc:Loc}(h:LcR M W a n loc)(k:Kept 0 0 W W'):LcR M W' a n loc:=h.mv (Mv.of k)
def VlO (W:World)(P:Nat)(M:Nat->Prop)(r:Rs Nat)(e:Ending)(W':World):Prop:=
 match r with
 |.error (c,p)=>e=.returned (.int .i64 (-1))/\Bad W P M c p W'
 |.ok v=>e=.returned (.int .i64 (v:Int))/\Kept 0 0 W W'
theorem mG {α:Type}(p:α->Bool)(z:α):∀(l:List α) (k:Nat),k<l.length->p (l.getD k z)=true->(∀j,j<k->p (l.getD j z)=false)->l.find? p=some (l.getD k z)
 |x::r,0,_,h,_=>by rw[List.find?_cons_of_pos (by simpa using h)];rfl
 |x::r,k+1,hk,h,hj=>by
  have h0:=hj 0 xaa
  rw[List.find?_cons_of_neg (by simpa using h0)]
  exact mG p z r k (by simpa using hk) h (λj hjk=>hj (j+1) xaa)
theorem nR {α:Type}(p:α->Bool)(z:α):∀(l:List α),(∀j,j<l.length->p (l.getD j z)=false)->l.find? p=none
 |[],_=>rfl
 |x::r,h=>by
  have h0:=h 0 xac
  rw[List.find?_cons_of_neg (by simpa using h0)]
  exact nR p z r (λj hj=>h (j+1) (by simpa using hj))
theorem qS {M:Nat->Prop}{W:World}{b:Bc}{d:Bdg}(h:BcOK M W b d):b.nm=d.nm:=by cases d<;>exact h.1
theorem lK {W:World}(h:WS W P B u1 u2 u3 u4 bs st){k:Nat}(hk:k<bs.length)(h1:(bs.getD k Bc.zero).nm=s)(h2:∀j,j<k->(bs.getD j Bc.zero).nm≠s):ie st.names s=some (st.names.getD k (.val [] 0)):=
 mG (λb:Bdg=>b.nm==s) (.val [] 0) st.names k (by rw[<-h.nl];exact hk) (by rw[<-qS (h.nb k hk),h1];simp) (λj hj=>by rw[<-qS (h.nb j xaa)];exact yaw (h2 j hj))
theorem l6 {W:World}(h:WS W P B u1 u2 u3 u4 bs st)(h2:∀j,j<bs.length->(bs.getD j Bc.zero).nm≠s):ie st.names s=none:=
 nR (λb:Bdg=>b.nm==s) (.val [] 0) st.names (λj hj=>by rw[<-qS (h.nb j (by rw[h.nl];exact hj))];exact yaw (h2 j (by rw[h.nl];exact hj)))
theorem sx {W:World}(h:WS W P B u1 u2 u3 u4 bs st)(hm:st.names.length<=5000)(aL:Option Addr)(nL cL:Nat)(loc:Loc)(hL:LcR (Mst P u1 u2 u3 u4) W aL nL loc)(hn:nL<=5000)(t:Tok):
  Calls prog 110 #[.pointer (some ⟨P,0,none⟩),.slice aL nL cL,ik t] W (VlO W P (Mst P u1 u2 u3 u4) (fh st loc t)):=by
 obtain⟨sy,ps,tx⟩:=t
 have HB:Hid (TB (W.alloc (.cells #[eE sy,.int .i64 (ps:Int),eE tx] 74)) W.heap.size sy ps tx):=gH W sy ps tx
 have k1:=ez 0 0 W (.cells #[eE sy,.int .i64 (ps:Int),eE tx] 74)
 have HK1:Hid _:=k1
 have HW1:Hid _:=h.keep k1
 have HL1:Hid _:=hL.keep k1
 have HLL:Hid (loc.length=nL):=hL.len
 have hbl:bs.length<=100000:=by rw[h.nl];omega
 have HV:Hid (fh st loc ⟨sy,ps,tx⟩=match vp loc tx with|some v=>.ok v|none=>match ie st.names tx with|some (.val _ v)=>.ok v|_=>.error (3,ps)):=rfl
 generalize fh st loc ⟨sy,ps,tx⟩=r at HV ⊢
 unfold ik
 simp only
 clear k1 h hL
 go_enter func110,ntmps110
 go_wp2_with fail
 change Code.wp _ _ _ _ (W.alloc (.cells #[eE sy,.int .i64 (ps:Int),eE tx] 74))
 generalize W.alloc (.cells #[eE sy,.int .i64 (ps:Int),eE tx] 74)=W1 at HB HK1 HW1 HL1 ⊢
 go_loopw [7] (λiv W'=>∃k:Nat,k<=nL/\iv=.int .i64 k/\Hid (Kept 0 0 W1 W')/\Hid (∀j,j<k->(loc.getD j ([],0)).1≠tx)) (λiv _=>nL-(intOf iv).toNat)
 case atStart=>exact⟨0,Nat.zero_le _,rfl,Kept.refl 0 0 W1,λj hj=>by omega⟩
 case round=>
  obtain⟨k,hk,rfl,hK,hJ⟩:=hrel
  by_cases hlt:k<nL
  ·obtain⟨g,off,rfl,_,hg,hc⟩:=(HL1.out.keep hK.out).at_ xaa
   obtain⟨c1,_⟩:=hc k hlt
   have c2:=(HB.out.keep hK.out).c2
   have HC:Hid (∀W',Kept 0 0 W1 W'->W'.cell? ⟨g,off+k*2+1,none⟩=some (.int .i64 ((loc.getD k ([],0)).2:Int))):=λW' kk=>by
    obtain⟨g',off',e,_,_,hc'⟩:=(HL1.out.keep kk).at_ xaa
    cases e
    exact(hc' k hlt).2
   generalize hx:(loc.getD k ([],0)).1=x at c1
   have HXe:Hid ((loc.getD k ([],0)).1=x):=hx
   clear hx hc
   go_upto_region 4 with fail
   go_quiet (fail)
   have HK4:Hid _:=Kept.trans hK.out (eK 0 0 wr nq)
   clear c1 c2 hK hg
   generalize wr.drewN nq=W4 at HK4 ⊢
   cases hq:(x==tx)
   ·have R:Hid (∀j,j<k+1->(loc.getD j ([],0)).1≠tx):=λj hj=>by
     by_cases c:j=k
     ·subst c;rw[HXe.out];intro d;rw[d] at hq;simp at hq
     ·exact hJ.out j xaa
    go_wp2_with fail
    go_roundw
    case rel=>exact⟨k+1,by omega,by go_num,HK4,R⟩
    case measure=>simp[intOf];omega
   ·have R:Hid (r=.ok (loc.getD k ([],0)).2):=by
     show _=_
     have hl:vp loc tx=some (loc.getD k ([],0)).2:=by
      unfold vp
      rw[mG (λb:List UInt8×Nat=>b.1==tx) ([],0) loc k (by rw[HLL.out];exact hlt) (by show((loc.getD k ([],0)).1==tx)=true;rw[HXe.out];exact hq) (λj hj=>yaw (hJ.out j hj))]
      rfl
     rw[HV.out,hl]
    have c3:=HC.out W4 HK4.out
    clear HC
    go_wp2_with fail
    go_ret
    rw[R.out]
    exact⟨rfl,HK1.out.trans HK4.out⟩
  ·obtain rfl:k=nL:=xaa
   have HNL:Hid (vp loc tx=none):=by
    show _=_
    unfold vp
    rw[nR (λb:List UInt8×Nat=>b.1==tx) ([],0) loc (λj hj=>yaw (hJ.out j (by rw[HLL.out] at hj;exact hj)))]
    rfl
   have HW:Hid _:=HW1.out.keep hK.out
   have HBk:Hid _:=HB.out.keep hK.out
   have HKK:Hid _:=HK1.out.trans hK.out
   have c2:=HBk.out.c2
   have c1:=HBk.out.c1
   have HFd:Hid _:=nQ HW.out.c3 HW.out.r4 hbl tx
   have c3:=HW.out.c3
   have HSt:Hid _:=iL HW.out.c5 HW.out.c6 HW.out.fr 3 ps (Mst P u1 u2 u3 u4) (.inl rfl)
   have HNA:Hid (0<bs.length->_):=jU HW.out.r4
   obtain⟨a4,cp4,hu4⟩:=iM HW.out.r4
   clear hK hJ HL1 HB
   subst hu4
   go_upto_region 7 with (go_at_call 76;refine yai HFd.out ?_;rintro e w2 ⟨i,rfl,hF,hw⟩;obtain rfl:=hw.symm)
   rcases hF with⟨k2,hk2,rfl,hn1,hn2⟩|⟨rfl,hn⟩
   ·have HFB:Hid _:=lK HW.out hk2 hn1 hn2
    have HBO:Hid _:=HW.out.nb k2 hk2
    obtain⟨g4,cp,e4,_,_,_,h6⟩:=HNA.out xaa
    cases e4
    obtain⟨_,d1,d2,_,_⟩:=h6 k2 hk2
    generalize hnn:bs.length=nn at*
    generalize bs.getD k2 Bc.zero=b at d1 d2 HBO
    generalize st.names.getD k2 (.val [] 0)=dd at HFB HBO
    have hneg:¬((k2:Int)<0):=xaa
    cases dd with
    |val nm v=>
     have hfn:b.fn=false:=HBO.out.2.1
     have hvl:b.val=(v:Int):=HBO.out.2.2
     rw[hfn] at d1
     rw[hvl] at d2
     have R:Hid (r=.ok v):=by show _=_;rw[HV.out,HNL.out,HFB.out]
     clear hfn hvl hn1 hn2 h6 hnn HBO HNA
     go_wp2_with fail
     go_ret
     rw[R.out]
     exact⟨rfl,HKK.out⟩
    |fn nm pp ee=>
     have hfn:b.fn=true:=HBO.out.2.1
     rw[hfn] at d1
     have R:Hid (r=.error (3,ps)):=by show _=_;rw[HV.out,HNL.out,HFB.out]
     clear hfn hn1 hn2 h6 hnn HBO HNA d2
     go_wp2_with (go_at_call 74;refine yai HSt.out ?_;rintro e w3 ⟨rfl,hbad⟩)
     go_ret
     rw[R.out]
     exact⟨rfl,hbad.c5,hbad.c6,(Mv.of HKK.out).bad hbad.chg⟩
   ·have R:Hid (r=.error (3,ps)):=by show _=_;rw[HV.out,HNL.out,l6 HW.out hn]
    clear hn HNA
    go_wp2_with (go_at_call 74;refine yai HSt.out ?_;rintro e w3 ⟨rfl,hbad⟩)
    go_ret
    rw[R.out]
    exact⟨rfl,hbad.c5,hbad.c6,(Mv.of HKK.out).bad hbad.chg⟩
