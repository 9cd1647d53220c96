import Derived.Test.YtdpbpcnldpkljaaGreatP34
namespace Go.Proofs.Z
open Tryz
set_option maxRecDepth 1000000
set_option maxHeartbeats 0
section
open Go.RowKit Flt
def l3n (x:Nat):List UInt8:=if x%10<6 then f4 (x/10%6) else if x%10=6 then f4 x++[46,53] else if x%10=7 then[48,46]++f4 x else if x%10=8 then[49] else ([48,48]++f4 x)++[46,50,53,48,48]
theorem vA (w:World)(P:Nat)(a:Option Addr)(n cap i:Nat)(bs:List Int)(f:RdF w P a n cap i bs):
  Calls prog 115 #[.pointer (some ⟨P,0,none⟩)] w λe w'=>e=.returned (eE (l3n (nv bs i)))/\RdF w' P a n cap (ni bs i) bs/\Kept P (P+1) w w'/\w'.heap.size=w.heap.size:=by
 have HN:Hid _:=iu w P a n cap i bs f
 have hx:=fw f.ys i
 generalize nv bs i=x at HN hx ⊢
 have HD:Hid (∀W:World,Calls prog 47 #[.int .i64 (x:Int)] W λe w'=>e=.returned (eE (f4 x))/\w'=W):=tJ x x yad xaa
 have HD6:Hid (∀W:World,Calls prog 47 #[.int .i64 ((x:Int)/10%6)] W λe w'=>e=.returned (eE (f4 (x/10%6)))/\w'=W):=tJ (x/10%6) (x/10%6) yad xaa
 have HL:Hid ((f4 x).length<=300):=by have:=iW x;show _<=_;omega
 clear f
 unfold l3n
 rcases (by omega:x%10<6\/x%10=6\/x%10=7\/x%10=8\/x%10=9) with c|c|c|c|c
 ·rw[if_pos c]
  have c1:(x:Int)%10<6:=xaa
  unfold eE at HD6 ⊢
  go_enter func115,ntmps115
  go_wp2_with (first|(go_at_call 19;refine yai HN.out ?_;rintro e w1 ⟨rfl,hr,k1,z1⟩)|(go_at_call 47;refine yai (HD6.out _) ?_;rintro e w2 ⟨rfl,rfl⟩))
  go_ret
  exact⟨rfl,hr,k1,z1⟩
 ·rw[if_neg xaa,if_pos c]
  have c1:(x:Int)%10=6:=xaa
  unfold eE at HD ⊢
  rw[<-pC]
  have hz:¬(9223372036854775807<(⟨(f4 x).toArray⟩:ByteArray).size+(⟨#[46,53]⟩:ByteArray).size):=by
   rw[fQ]
   have:=HL.out
   simp[ByteArray.size]
   omega
  exact xeo
 ·rw[if_neg xaa,if_neg xaa,if_pos c]
  have c1:(x:Int)%10=7:=xaa
  unfold eE at HD ⊢
  rw[<-pC]
  have hz:¬(9223372036854775807<(⟨#[48,46]⟩:ByteArray).size+(⟨(f4 x).toArray⟩:ByteArray).size):=by
   rw[fQ]
   have:=HL.out
   simp[ByteArray.size]
   omega
  exact xeo
 ·rw[if_neg xaa,if_neg xaa,if_neg xaa,if_pos c]
  have c1:(x:Int)%10=8:=xaa
  go_enter func115,ntmps115
  go_wp2_with (go_at_call 19;refine yai HN.out ?_;rintro e w1 ⟨rfl,hr,k1,z1⟩)
  go_ret
  exact⟨rfl,hr,k1,z1⟩
 ·rw[if_neg xaa,if_neg xaa,if_neg xaa,if_neg xaa]
  have c1:(x:Int)%10=9:=xaa
  unfold eE at HD ⊢
  rw[<-pC,<-pC]
  have hz:¬(9223372036854775807<(⟨#[48,48]⟩:ByteArray).size+(⟨(f4 x).toArray⟩:ByteArray).size):=by
   rw[fQ]
   have:=HL.out
   simp[ByteArray.size]
   omega
  have hz2:¬(9223372036854775807<((⟨#[48,48]⟩:ByteArray)++(⟨(f4 x).toArray⟩:ByteArray)).size+(⟨#[46,50,53,48,48]⟩:ByteArray).size):=by
   rw[yaq,fQ]
   have:=HL.out
   simp[ByteArray.size]
   omega
  generalize (⟨(f4 x).toArray⟩:ByteArray)=sa at HD hz hz2 ⊢
  exact xdb
end
section
open Go.RowKit Flt
attribute [local go_sem] eD eB eA
variable {w W W':World} {P n cap i nE cE:Nat} {a aE:Option Addr} {bs:List Int} {env:List (List UInt8×Int)}
structure En (w:World)(P:Nat)(aE:Option Addr)(nE:Nat)(env:List (List UInt8×Int)):Prop where
 len:env.length=nE
 le:nE<=100
 at_:∀k,k<nE->∃g,aE=some ⟨g,0,none⟩/\P<g/\g<w.heap.size/\w.cell? ⟨g,k*2,none⟩=some (eE (env.getD k ([],0)).1)/\w.cell? ⟨g,k*2+1,none⟩=some (.int .i64 (env.getD k ([],0)).2)
theorem En.keep (f:En w P aE nE env)(k:Kept P (P+1) w W):En W P aE nE env:=
 ⟨f.len,f.le,λj hj=>by
  obtain⟨g,e,h1,h2,c0,c1⟩:=f.at_ j hj
  exact⟨g,e,h1,yaj h2 k.size,(k.cell (p:=⟨g,_,none⟩) h2 (by show ¬(P<=g/\g<P+1);omega)).trans c0,(k.cell (p:=⟨g,_,none⟩) h2 (by show ¬(P<=g/\g<P+1);omega)).trans c1⟩⟩
theorem En.keep0 (f:En w P aE nE env)(k:Kept 0 0 w W):En W P aE nE env:=f.keep (e8 k)
def ofG (env:List (List UInt8×Int))(q:Int)(c:Nat):Nat->Nat->List UInt8
 |0,_=>[]
 |m+1,k=>if (env.getD ((k+c)%env.length) ([],0)).2=q then (env.getD ((k+c)%env.length) ([],0)).1 else ofG env q c m (k+1)
def ofM (env:List (List UInt8×Int))(q:Int)(c:Nat):List UInt8:=ofG env q c env.length 0
theorem GI (f:En w P aE nE env)(hR:RdF w P a n cap i bs)(q:Int):
  Calls prog 80 #[.slice aE nE cE,.int .i64 q,.pointer (some ⟨P,0,none⟩)] w λe w'=>e=.returned (eE (ofM env q (nv bs i)))/\RdF w' P a n cap (ni bs i) bs/\Kept P (P+1) w w':=by
 have hnv:=fw hR.ys i
 have HN:Hid _:=iu w P a n cap i bs hR
 have HF:Hid _:=f
 have HM:Hid (ofM env q (nv bs i)=ofG env q (nv bs i) (nE-0) 0):=by show ofG _ _ _ _ _=_;rw[f.len];rfl
 have hn:nE<=100:=f.le
 generalize ofM env q (nv bs i)=r at HM ⊢
 generalize nv bs i=x at HN HM hnv
 clear f hR
 go_enter func80,ntmps80
 go_wp2_with fail
 refine yai HN.out ?_
 rintro e w2 ⟨rfl,hR2,k2,hsz⟩
 clear hsz HN
 have HR2:Hid _:=hR2
 have HK2:Hid _:=k2
 have HF2:Hid _:=HF.out.keep k2
 clear hR2 k2 HF
 go_wp2_with fail
 go_loopw [8] (λt W=>∃k:Nat,k<=nE/\t=.int .i64 (k:Int)/\Hid (r=ofG env q x (nE-k) k)/\Hid (Kept 0 0 w2 W)) (λt _=>nE-(intOf t).toNat)
 case atStart=>exact⟨0,Nat.zero_le _,rfl,HM.out,Kept.refl 0 0 _⟩
 case round=>
  obtain⟨k,hk,rfl,hr,hK⟩:=hrel
  by_cases hlt:k<nE
  ·have hm:(k+x)%nE<nE:=Nat.mod_lt _ xaa
   obtain⟨g,eu,hg1,hg2,y0,y1⟩:=(HF2.out.keep0 hK.out).at_ _ hm
   have hmI:((k:Int)+(x:Int))%(nE:Int)=(((k+x)%nE:Nat):Int):=by rw[Int.natCast_emod,Int.natCast_add]
   have HR:Hid (r=if (env.getD ((k+x)%nE) ([],0)).2=q then (env.getD ((k+x)%nE) ([],0)).1 else ofG env q x (nE-(k+1)) (k+1)):=by
    have e:nE-k=(nE-(k+1))+1:=xaa
    have:=hr.out
    rw[e,ofG,HF2.out.len] at this
    exact this
   clear hr
   subst eu
   generalize env.getD ((k+x)%nE) ([],0)=z at y0 y1 HR
   generalize (k+x)%nE=j at hm y0 y1 HR hmI
   obtain⟨z1,z2⟩:=z
   simp only at y0 y1 HR
   have HKa:Hid (Kept 0 0 w2 (wr.alloc (.cells #[eE z1,.int .i64 z2] 85))):=hK.out.trans (ez 0 0 _ _)
   by_cases hz:z2=q
   ·subst hz
    have HR':Hid (r=z1):=HR.out.trans (if_pos rfl)
    clear HR HM
    go_wp2
    go_ret
    exact⟨by rw[HR'.out];rfl,HR2.out.keep0 HKa.out,HK2.out.trans (e8 HKa.out)⟩
   ·have HR':Hid _:=HR.out.trans (if_neg hz)
    clear HR HM
    go_wp2
    go_roundw
    case rel=>exact⟨k+1,by omega,by go_num,HR'.out,HKa⟩
    case measure=>simp[intOf];omega
  ·have hk2:k=nE:=xaa
   have HR':Hid (r=[]):=by have:=hr.out;rw[hk2,Nat.sub_self,ofG] at this;exact this
   clear hr HM hk2
   go_wp2
   go_ret
   exact⟨by rw[HR'.out];rfl,HR2.out.keep0 hK.out,HK2.out.trans (e8 hK.out)⟩
structure Xd where
 w:World
 P:Nat
 n:Nat
 cap:Nat
 nE:Nat
 cE:Nat
 a:Option Addr
 aE:Option Addr
structure Sd (X:Xd)(env:List (List UInt8×Int))(bs:List Int)(i:Nat)(W:World):Prop where
 rd:RdF W X.P X.a X.n X.cap i bs
 en:En W X.P X.aE X.nE env
 kp:Kept X.P (X.P+1) X.w W
variable {X:Xd} {W W':World} {env:List (List UInt8×Int)} {bs:List Int} {i j:Nat}
theorem Sd.go (h:Sd X env bs i W)(r:RdF W' X.P X.a X.n X.cap j bs)(k:Kept X.P (X.P+1) W W'):Sd X env bs j W':=⟨r,h.en.keep k,h.kp.trans k⟩
theorem Sd.keep0 (h:Sd X env bs i W)(k:Kept 0 0 W W'):Sd X env bs i W':=h.go (h.rd.keep0 k) (e8 k)
def Tx (X:Xd)(env:List (List UInt8×Int))(bs:List Int)(j:Nat)(v:Value)(e:Ending)(w':World):Prop:=e=.returned v/\Sd X env bs j w'
theorem nxS (h:Sd X env bs i W):Calls prog 19 #[.pointer (some ⟨X.P,0,none⟩)] W (Tx X env bs (ni bs i) (.int .i64 (nv bs i:Int))):=
 (iu W X.P X.a X.n X.cap i bs h.rd).mono λ_ _ ⟨e,r,k,_⟩=>⟨e,h.go r k⟩
theorem lfS (h:Sd X env bs i W):Calls prog 25 #[.pointer (some ⟨X.P,0,none⟩)] W (Tx X env bs i (.int .i64 ((bs.length:Int)-i))):=
 (wm h.rd).mono λ_ _ ⟨e,k⟩=>⟨e,h.keep0 k⟩
theorem olS (q:Int)(h:Sd X env bs i W):Calls prog 80 #[.slice X.aE X.nE X.cE,.int .i64 q,.pointer (some ⟨X.P,0,none⟩)] W (Tx X env bs (ni bs i) (eE (ofM env q (nv bs i)))):=
 (GI h.en h.rd q).mono λ_ _ ⟨e,r,k⟩=>⟨e,h.go r k⟩
theorem nbS (h:Sd X env bs i W):Calls prog 115 #[.pointer (some ⟨X.P,0,none⟩)] W (Tx X env bs (ni bs i) (eE (l3n (nv bs i)))):=
 (vA W X.P X.a X.n X.cap i bs h.rd).mono λ_ _ ⟨e,r,k,_⟩=>⟨e,h.go r k⟩
theorem dcS {q:Nat}(hq:q<=1000)(h:Sd X env bs i W):Calls prog 47 #[.int .i64 (q:Int)] W (Tx X env bs i (eE (f4 q))):=
 (tJ q q yad xaa W).mono λ_ _ ⟨e,e2⟩=>⟨e,e2 ▸ h⟩
theorem sz2 {x y:ByteArray}{G:Prop}(h:x.size+y.size<=1000000)(k:¬9223372036854775807<x.size+y.size->x.size<=1000000->G):G:=k xaa xaa
theorem GJ (hE:∀x∈env,x.1.length<=5)(q:Int)(c:Nat):(ofM env q c).length<=5:=by
 have h:∀m k,(ofG env q c m k).length<=5:=by
  intro m
  induction m with
  |zero=>exact λ_=>by simp[ofG]
  |succ m ih=>
   intro k
   rw[ofG]
   split
   ·rw[yah]
    cases e:env[(k+c)%env.length]? with
    |none=>simp
    |some x=>exact hE x (List.mem_of_getElem? e)
   ·exact ih _
 exact h _ _
theorem GK {x:Nat}(h:x<256):(l3n x).length<=300:=by
 have:=iW x
 have:=iW (x/10%6)
 unfold l3n
 (repeat' split)<;>simp<;>omega
def Dr (env:List (List UInt8×Int))(bs:List Int)(i f:Nat)(xs:Xd->Array Value)(m:Nat)(s:ByteArray)(j:Nat):Prop:=s.size<=m/\∀X W,Hid (Sd X env bs i W)->Calls prog f (xs X) W (Tx X env bs j (.string s))
theorem fS {f m:Nat}{xs:Xd->Array Value}{s:ByteArray}(hz:s.size<=m)(hm:m<=1000000)(h:s.size<=1000000->∀X W,Hid (Sd X env bs i W)->Calls prog f (xs X) W (Tx X env bs j (.string s))):Dr env bs i f xs m s j:=⟨hz,h (yan hz hm)⟩
theorem olD (hE:∀x∈env,x.1.length<=5)(q:Int)(i:Nat):∃s j,Dr env bs i 80 (λX=>#[.slice X.aE X.nE X.cE,.int .i64 q,.pointer (some ⟨X.P,0,none⟩)]) 5 s j:=⟨_,_,by rw[fQ];exact GJ hE q (nv bs i),λ_ _ h=>olS q h.out⟩
theorem nbD (hb:∀i,nv bs i<256)(i:Nat):∃s j,Dr env bs i 115 (λX=>#[.pointer (some ⟨X.P,0,none⟩)]) 300 s j:=⟨_,_,by rw[fQ];exact GK (hb i),λ_ _ h=>nbS h.out⟩
theorem dcD {q:Int}(h0:0<=q)(h3:q<=3):∃s,∀i,Dr env bs i 47 (λ_=>#[.int .i64 q]) 5 s i:=by
 obtain⟨q,rfl⟩:=Int.eq_ofNat_of_zero_le h0
 exact⟨_,λ_=>⟨by rw[fQ];have:=iW q;omega,λ_ _ h=>dcS xaa h.out⟩⟩
theorem qk (s:ByteArray):s.toList=[]/\s.toList.isEmpty=true\/¬s.toList=[]/\s.toList.isEmpty=false:=by
 by_cases h:s.toList=[]
 ·exact .inl ⟨h,by rw[h];rfl⟩
 ·exact .inr ⟨h,by simp[h]⟩
theorem E5 (hE:∀x∈env,x.1.length<=5)(hb:∀i,nv bs i<256)(q:Int)(hq:1<=q/\q<=3)(i:Nat):∃s j,Dr env bs i 79 (λX=>#[.slice X.aE X.nE X.cE,.int .i64 q,.pointer (some ⟨X.P,0,none⟩)]) 1000 s j:=by
 obtain⟨s0,j0,A⟩:=olD (bs:=bs) hE q i
 obtain⟨s1,j1,B⟩:=nbD (env:=env) hb (ni bs j0)
 obtain⟨s2,D⟩:=dcD (env:=env) (bs:=bs) (by omega:0<=q) hq.2
 have h0:=A.1
 have h1:=B.1
 have h2:=(D 0).1
 rcases qk s0 with⟨t0,t2⟩|⟨t0,t2⟩<;>rcases (by omega:q=1\/¬q=1) with rfl|t3<;>rcases (by omega:(nv bs j0:Int)%4=0\/0<(nv bs j0:Int)%4) with t1|t1
 ·exact xbl
 ·exact xbl
 ·exact xbd
 ·exact xbd
 ·exact xbl
 ·exact xdc
 ·exact xbd
 ·exact xdc
variable {X:Xd} {W W':World} {env:List (List UInt8×Int)} {bs:List Int} {i j:Nat}
theorem Sd.al (h:Sd X env bs i W)(o:Obj):Hid (Sd {X with w:=W.alloc o} env bs i (W.alloc o)):=⟨h.rd.keep0 (ez 0 0 _ _),h.en.keep0 (ez 0 0 _ _),Kept.refl _ _ _⟩
theorem Sd.fin {cs:Array Value}{ty:TypeId}(h3:Sd {X with w:=W.alloc (.cells cs ty)} env bs j W')(h:Sd X env bs i W):Sd X env bs j W'/\∀m v,cs[m]? =some v->W'.cell? ⟨W.heap.size,m,none⟩=some v:=
 ⟨⟨h3.rd,h3.en,h.kp.trans ((e8 (ez 0 0 _ _)).trans h3.kp)⟩,λm v e=>by
   have hp:=h.rd.lt
   rw[h3.kp.cell (p:=⟨W.heap.size,m,none⟩) xac (by show ¬(X.P<=W.heap.size/\W.heap.size<X.P+1);omega),yau,e]⟩
theorem WkS {P:Prop}(h:P:=by(try simp only[yaq,fQ,yap,List.length_nil]);omega):P:=h
theorem WkE {P:Prop}(h:P:=by
  repeat (rw[yaq] at z;refine sz2 z ?_;clear z;intro _ z)
  go_enter func48,ntmps48
  go_wp2_with ((first
   |(go_at_call 19;refine(nxS HS.out).mono ?_)
   |(go_at_call 25;refine(lfS HS.out).mono ?_)
   |(go_at_call 48;(first|have hC:=E1.2 _ _ HS|have hC:=E2.2 _ _ HS|have hC:=E3.2 _ _ HS);refine hC.mono ?_;clear hC)
   |(go_at_call 80;refine(A.2 _ _ HS).mono ?_)
   |(go_at_call 79;refine(L.2 _ _ HS).mono ?_)
   |(go_at_call 47;first|(have hC:=(D _).2 _ _ HS;with_reducible refine hC.mono ?_;clear hC)|(have hC:=(V _).2 _ _ HS;with_reducible refine hC.mono ?_;clear hC)));rintro e w1 ⟨rfl,hS⟩;clear HS;have HS:Hid _:=hS;clear hS)
  go_ret
  exact⟨rfl,HS.out⟩):P:=h
theorem WkT {P:Prop}(h:P:=by
  repeat (rw[yaq] at z;refine sz2 z ?_;clear z;intro _ z)
  go_enter func48,ntmps48
  go_wp2_with (first
   |(go_at_call 19;refine(nxS HS.out).mono ?_;rintro e w1 ⟨rfl,hS⟩;clear HS;have HS:Hid _:=hS;clear hS)
   |(go_at_call 25;refine(lfS HS.out).mono ?_;rintro e w1 ⟨rfl,hS⟩;clear HS;have HS:Hid _:=hS;clear hS)
   |(go_at_call 48;refine(E2.2 _ _ HT).mono ?_;rintro e w2 ⟨rfl,hS⟩;clear HT;obtain⟨hT,hc⟩:=hS.fin HS.out;have HT:Hid _:=hT;have y0:=hc 0 _ rfl;have y1:=hc 1 _ rfl;have y2:=hc 2 _ rfl;have y3:=hc 3 _ rfl;have y4:=hc 4 _ rfl;have y5:=hc 5 _ rfl;have y6:=hc 6 _ rfl;clear hS hT hc)
   |(go_at_call 48;refine(E1.2 _ _ (HS.out.al _)).mono ?_;rintro e w2 ⟨rfl,hS⟩;have HT:Hid _:=hS;clear hS))
  go_ret
  exact⟨rfl,HT.out⟩):P:=h
theorem A5 (hE:∀x∈env,x.1.length<=5)(hb:∀i,nv bs i<256)(d:Nat):d<=4->∀q:Int,1<=q/\q<=3->∀i,∃s j,Dr env bs i 48 (λX=>#[.slice X.aE X.nE X.cE,.int .i64 q,.int .i64 (d:Int),.pointer (some ⟨X.P,0,none⟩)]) (1000*4 ^ d) s j:=by
 induction d with
 |zero=>
  intro _ q hq i
  obtain⟨s1,j1,L⟩:=E5 hE hb q hq (ni bs i)
  have h1:=L.1
  have hm:1000<=1000000:=xab
  show ∃s j,Dr env bs i 48 (λX=>#[.slice X.aE X.nE X.cE,.int .i64 q,.int .i64 0,.pointer (some ⟨X.P,0,none⟩)]) 1000 s j
  exact⟨s1,j1,fS WkS hm λz X W HS=>WkE⟩
 |succ d ih=>
 intro hd q hq i
 replace ih:=ih xaa
 have hm:1000*4 ^ (d+1)<=1000000:=yan (Nat.mul_le_mul_left 1000 (Nat.pow_le_pow_right xab hd)) xab
 have hp:1000*4 ^ (d+1)=4*(1000*4 ^ d):=by rw[Nat.pow_succ];omega
 have hp1:1<=4 ^ d:=Nat.pos_of_ne_zero xac
 generalize 1000*4 ^ (d+1)=M at hm hp ⊢
 generalize 4 ^ d=m at hp hp1 ih
 obtain⟨sL,jL,L⟩:=E5 hE hb q hq (ni bs i)
 have hL:=L.1
 have td:¬((d:Int)+1<=0):=xaa
 have tf:0<(d:Int)+1:=xaa
 have te:(d:Int)<=3:=xaa
 rw[show((d+1:Nat):Int)=(d:Int)+1 from rfl]
 rcases (by omega:(nv bs i:Int)%24<4\/(¬((nv bs i:Int)%24<4)/\((bs.length:Int)=(ni bs i:Int)\/¬((bs.length:Int)=(ni bs i:Int)\/(nv bs i:Int)%24<4)))) with tk|⟨tk,tl|tl⟩
 ·exact⟨sL,jL,fS WkS hm λz X W HS=>WkE⟩
 ·have tn:((bs.length:Int)-(ni bs i:Int)==0)=true:=by rw[tl];simp
  exact⟨sL,jL,fS WkS hm λz X W HS=>WkE⟩
 ·have tn:((bs.length:Int)-(ni bs i:Int)==0)=false:=by simp only[beq_eq_false_iff_ne];omega
  clear tl
  rcases (by omega:(nv bs i:Int)%24=4\/(nv bs i:Int)%24=5\/(nv bs i:Int)%24=6\/(nv bs i:Int)%24=7\/(nv bs i:Int)%24=8\/(nv bs i:Int)%24=9\/(nv bs i:Int)%24=10\/(nv bs i:Int)%24=11\/(nv bs i:Int)%24=12\/(nv bs i:Int)%24=13\/(nv bs i:Int)%24=14\/(nv bs i:Int)%24=15\/16<=(nv bs i:Int)%24) with tk|tk|tk|tk|tk|tk|tk|tk|tk|tk|tk|tk|tk
  ·obtain⟨s1,j1,E1⟩:=ih (q) xaa (ni bs i)
   have h1:=E1.1
   obtain⟨s2,j2,E2⟩:=ih (q) xaa (j1)
   have h2:=E2.1
   exact⟨⟨#[40]⟩++s1++⟨#[32,43,32]⟩++s2++⟨#[41]⟩,j2,fS WkS hm λz X W HS=>WkT⟩
  ·obtain⟨s1,j1,E1⟩:=ih (q) xaa (ni bs i)
   have h1:=E1.1
   obtain⟨s2,j2,E2⟩:=ih (q) xaa (j1)
   have h2:=E2.1
   exact⟨s1++⟨#[32,45,32]⟩++⟨#[40]⟩++s2++⟨#[41]⟩,j2,fS WkS hm λz X W HS=>WkT⟩
  ·obtain⟨s1,j1,E1⟩:=ih (q) xaa (ni bs i)
   have h1:=E1.1
   obtain⟨s2,j2,E2⟩:=ih (q) xaa (j1)
   have h2:=E2.1
   exact⟨⟨#[40]⟩++s1++⟨#[32,42,32]⟩++s2++⟨#[41]⟩,j2,fS WkS hm λz X W HS=>WkT⟩
  ·obtain⟨s1,j1,E1⟩:=ih (q) xaa (ni bs i)
   have h1:=E1.1
   obtain⟨s2,j2,E2⟩:=ih (q) xaa (j1)
   have h2:=E2.1
   exact⟨s1++⟨#[42]⟩++⟨#[40]⟩++s2++⟨#[41]⟩,j2,fS WkS hm λz X W HS=>WkT⟩
  ·obtain⟨s1,j1,E1⟩:=ih (q) xaa (ni bs i)
   have h1:=E1.1
   obtain⟨s2,j2,E2⟩:=ih (q) xaa (j1)
   have h2:=E2.1
   exact⟨⟨#[40]⟩++s1++⟨#[32,47,32]⟩++s2++⟨#[41]⟩,j2,fS WkS hm λz X W HS=>WkT⟩
  ·obtain⟨s1,j1,E1⟩:=ih (q) xaa (ni bs i)
   have h1:=E1.1
   obtain⟨s2,j2,E2⟩:=ih (q) xaa (j1)
   have h2:=E2.1
   exact⟨s1++⟨#[43]⟩++⟨#[40]⟩++s2++⟨#[41]⟩,j2,fS WkS hm λz X W HS=>WkT⟩
  ·obtain⟨s1,j1,E1⟩:=ih (q) xaa (ni bs i)
   have h1:=E1.1
   obtain⟨s2,j2,E2⟩:=ih (1) xaa (j1)
   have h2:=E2.1
   exact⟨⟨#[40]⟩++s1++⟨#[45]⟩++s2++⟨#[41]⟩,j2,fS WkS hm λz X W HS=>WkT⟩
  ·obtain⟨s1,j1,E1⟩:=ih (q) xaa (ni bs i)
   have h1:=E1.1
   exact⟨⟨#[45,40]⟩++s1++⟨#[41]⟩,j1,fS WkS hm λz X W HS=>WkE⟩
  ·obtain⟨s1,j1,E1⟩:=ih (q) xaa (ni bs i)
   have h1:=E1.1
   obtain⟨s2,j2,E2⟩:=ih (1) xaa (j1)
   have h2:=E2.1
   exact⟨⟨#[109,97,120,40]⟩++s1++⟨#[44,32]⟩++s2++⟨#[41]⟩,j2,fS WkS hm λz X W HS=>WkE⟩
  ·obtain⟨s1,j1,E1⟩:=ih (q) xaa (ni bs i)
   have h1:=E1.1
   obtain⟨s2,j2,E2⟩:=ih (q) xaa (j1)
   have h2:=E2.1
   obtain⟨s3,j3,E3⟩:=ih (1) xaa (j2)
   have h3:=E3.1
   exact⟨⟨#[115,101,108,40]⟩++s3++⟨#[44,32]⟩++s1++⟨#[44,32]⟩++s2++⟨#[41]⟩,j3,fS WkS hm λz X W HS=>WkE⟩
  ·obtain⟨s1,j1,E1⟩:=ih (q) xaa (ni bs i)
   have h1:=E1.1
   exact⟨⟨#[101,120,112,40]⟩++s1++⟨#[41]⟩,j1,fS WkS hm λz X W HS=>WkE⟩
  ·obtain⟨s0,j0,A⟩:=olD (bs:=bs) hE (0) (ni bs i)
   have h0:=A.1
   obtain⟨s1,j1,E1⟩:=ih (q) xaa (j0)
   have h1:=E1.1
   rcases qk s0 with⟨t0,t2⟩|⟨t0,t2⟩
   ·exact⟨s1,j1,fS WkS hm λz X W HS=>WkE⟩
   ·exact⟨s0++⟨#[40]⟩++s1++⟨#[41]⟩,j1,fS WkS hm λz X W HS=>WkE⟩
  ·rcases (by omega:q=1\/q=2\/q=3) with rfl|rfl|rfl
   ·rcases (by omega:((nv bs i:Int)%24=16\/(nv bs i:Int)%24=17\/(nv bs i:Int)%24=18\/(nv bs i:Int)%24=19\/(nv bs i:Int)%24=20\/(nv bs i:Int)%24=21)\/((nv bs i:Int)%24=22)\/((nv bs i:Int)%24=23)) with tk|tk|tk
    ·obtain⟨s0,j0,A⟩:=olD (bs:=bs) hE (1+(nv bs (ni bs i):Int)%3) (ni bs (ni bs i))
     have h0:=A.1
     obtain⟨s1,j1,E1⟩:=ih (1) xaa (j0)
     have h1:=E1.1
     obtain⟨s2,j2,E2⟩:=ih (1) xaa (j1)
     have h2:=E2.1
     rcases qk s0 with⟨t0,t2⟩|⟨t0,t2⟩
     ·rcases tk with tk|tk|tk|tk|tk|tk<;>exact⟨s1,j2,fS WkS hm λz X W HS=>WkE⟩
     ·rcases tk with tk|tk|tk|tk|tk|tk<;>exact⟨⟨#[106,118,112,40]⟩++s1++⟨#[44,32]⟩++s0++⟨#[44,32]⟩++s2++⟨#[41]⟩,j2,fS WkS hm λz X W HS=>WkE⟩
    ·obtain⟨s1,j1,E1⟩:=ih (1+(nv bs (ni bs i):Int)%3) xaa (ni bs (ni bs i))
     have h1:=E1.1
     exact⟨⟨#[115,117,109,40]⟩++s1++⟨#[41]⟩,j1,fS WkS hm λz X W HS=>WkE⟩
    ·obtain⟨s1,j1,E1⟩:=ih (1+(nv bs (ni bs i):Int)%3) xaa (ni bs (ni bs i))
     have h1:=E1.1
     rcases (by omega:(nv bs j1:Int)%3=0\/(nv bs j1:Int)%3=1\/(nv bs j1:Int)%3=2) with tc|tc|tc
     ·obtain⟨sv,D⟩:=dcD (env:=env) (bs:=bs) (by omega:(0:Int)<=1+(nv bs (ni bs i):Int)%3-1) xaa
      have hv:=(D 0).1
      exact⟨⟨#[112,105,99,107,40]⟩++s1++⟨#[44,32]⟩++sv++⟨#[41]⟩,ni bs j1,fS WkS hm λz X W HS=>WkE⟩
     ·obtain⟨s2,j2,E2⟩:=ih (1+(nv bs (ni bs i):Int)%3) xaa (ni bs j1)
      have h2:=E2.1
      exact⟨⟨#[100,111,116,40]⟩++s1++⟨#[44,32]⟩++s2++⟨#[41]⟩,j2,fS WkS hm λz X W HS=>WkE⟩
     ·obtain⟨s0,j0,A⟩:=olD (bs:=bs) hE (1) (ni bs j1)
      have h0:=A.1
      obtain⟨s2,j2,E2⟩:=ih (1) xaa (j0)
      have h2:=E2.1
      rcases qk s0 with⟨t0,t2⟩|⟨t0,t2⟩
      ·exact⟨s2,j2,fS WkS hm λz X W HS=>WkE⟩
      ·exact⟨⟨#[103,114,97,100,40]⟩++s2++⟨#[44,32]⟩++s0++⟨#[41]⟩,j2,fS WkS hm λz X W HS=>WkE⟩
   ·rcases (by omega:((nv bs i:Int)%24=16\/(nv bs i:Int)%24=17)\/((nv bs i:Int)%24=18\/(nv bs i:Int)%24=19)\/((nv bs i:Int)%24=20\/(nv bs i:Int)%24=21)\/((nv bs i:Int)%24=22\/(nv bs i:Int)%24=23)) with tk|tk|tk|tk
    ·obtain⟨s0,j0,A⟩:=olD (bs:=bs) hE (2) (ni bs i)
     have h0:=A.1
     obtain⟨s1,j1,E1⟩:=ih (1) xaa (j0)
     have h1:=E1.1
     obtain⟨sv,D⟩:=dcD (env:=env) (bs:=bs) (by omega:(0:Int)<=((nv bs j1:Int)%2)) xaa
     obtain⟨sq,V⟩:=dcD (env:=env) (bs:=bs) (by omega:(0:Int)<=2) xaa
     exact xdq
    ·obtain⟨s0,j0,A⟩:=olD (bs:=bs) hE (2) (ni bs i)
     have h0:=A.1
     obtain⟨s1,j1,E1⟩:=ih (1) xaa (j0)
     have h1:=E1.1
     obtain⟨sv,D⟩:=dcD (env:=env) (bs:=bs) (by omega:(0:Int)<=((nv bs j1:Int)%2)) xaa
     obtain⟨sq,V⟩:=dcD (env:=env) (bs:=bs) (by omega:(0:Int)<=2) xaa
     exact xdl
    ·obtain⟨s0,j0,A⟩:=olD (bs:=bs) hE (1+(nv bs (ni bs i):Int)%3) (ni bs (ni bs i))
     have h0:=A.1
     obtain⟨s1,j1,E1⟩:=ih (2) xaa (j0)
     exact xeh
    ·exact xjt
   ·rcases (by omega:((nv bs i:Int)%24=16\/(nv bs i:Int)%24=17)\/((nv bs i:Int)%24=18\/(nv bs i:Int)%24=19)\/((nv bs i:Int)%24=20\/(nv bs i:Int)%24=21)\/((nv bs i:Int)%24=22\/(nv bs i:Int)%24=23)) with tk|tk|tk|tk
    ·obtain⟨s0,j0,A⟩:=olD (bs:=bs) hE (3) (ni bs i)
     have h0:=A.1
     obtain⟨s1,j1,E1⟩:=ih (1) xaa (j0)
     have h1:=E1.1
     obtain⟨sv,D⟩:=dcD (env:=env) (bs:=bs) (by omega:(0:Int)<=((nv bs j1:Int)%3)) xaa
     obtain⟨sq,V⟩:=dcD (env:=env) (bs:=bs) (by omega:(0:Int)<=3) xaa
     exact xdq
    ·obtain⟨s0,j0,A⟩:=olD (bs:=bs) hE (3) (ni bs i)
     have h0:=A.1
     obtain⟨s1,j1,E1⟩:=ih (1) xaa (j0)
     have h1:=E1.1
     obtain⟨sv,D⟩:=dcD (env:=env) (bs:=bs) (by omega:(0:Int)<=((nv bs j1:Int)%3)) xaa
     obtain⟨sq,V⟩:=dcD (env:=env) (bs:=bs) (by omega:(0:Int)<=3) xaa
     exact xdl
    ·obtain⟨s0,j0,A⟩:=olD (bs:=bs) hE (1+(nv bs (ni bs i):Int)%3) (ni bs (ni bs i))
     have h0:=A.1
     obtain⟨s1,j1,E1⟩:=ih (3) xaa (j0)
     exact xeh
    ·exact xjt
def flE (env:List (List UInt8×Int)):List Value:=env.flatMap λx=>[.string ⟨x.1.toArray⟩,.int .i64 x.2]
def nmL:List (List UInt8):=[[97],[98,50],[99,95],[100],[101],[103],[104]]
theorem Dp (a b:List (List UInt8×Int)):flE (a++b)=flE a++flE b:=by simp[flE]
theorem vB (a:List (List UInt8×Int)):∀k,k<a.length->(flE a)[k*2]? =some (eE (a.getD k ([],0)).1)/\(flE a)[k*2+1]? =some (.int .i64 (a.getD k ([],0)).2):=by
 induction a with
 |nil=>intro k hk;cases hk
 |cons x r ih=>
  intro k hk
  cases k with
  |zero=>exact⟨rfl,rfl⟩
  |succ k=>
   have h:=ih k (Nat.lt_of_succ_lt_succ hk)
   have e:flE (x::r)=[.string ⟨x.1.toArray⟩,.int .i64 x.2]++flE r:=rfl
   rw[e,show(k+1)*2=2+k*2 by omega,yar xac,yar yaf]
   simpa[show 2+k*2+1-2=k*2+1 by omega] using h
theorem IJ:(prog.info? 85).map (λi=>(i.zero,i.size,i.bytes))=some (some (.agg #[.string ⟨#[]⟩,.int .i64 0]),2,24):=by kernel_rfl
theorem jX (w:World){ops:Array Oper}{rest:List Oper}{o:Oper}{a:Act}{Q:Exit->Act->World->Prop}(hgd:o.guard=none)(s x:Operand)
  (ho:o.op=.call {callee:=.builtin .append,args:=#[s,x],argTypes:=#[83,83]})
  (B:Nat) (u:Value) (env:List (List UInt8×Int)) (hs:a.eval s=u) (hown:w.ownsRow B 85 2 u env.length (flE env))
  (b:Nat) (v:List UInt8×Int) (hx:a.eval x=.slice (some ⟨b,0,none⟩) 1 1) (h0:w.cell? ⟨b,0,none⟩=some (.string ⟨v.1.toArray⟩)) (h1:w.cell? ⟨b,1,none⟩=some (.int .i64 v.2))
  (h63:env.length+1<=1000) (hbase:B<=w.heap.size)
  (h:∀g cap n w',n=(env++[v]).length->w'.ownsRow B 85 2 (.slice (some ⟨g,0,none⟩) n cap) n (flE (env++[v]))->Chg (λb=>u.ownBlock=some b) w w'->(u.ownBlock=some g\/g=w.heap.size)->wpList prog ops Q rest (a.put o.dst (.slice (some ⟨g,0,none⟩) n cap)) w'):wpList prog ops Q (o::rest) a w:=by
 obtain⟨i0,hi,hz0,hz1,hz2⟩:=info_parts IJ
 refine wpList_append_lies w hgd s x 83 ho B 85 i0 _ 2 24 underlying83 hi hz0 hz1 hz2 rfl xab u env.length _ hs hown ⟨b,0,none⟩ 1 1 [.string ⟨v.1.toArray⟩,.int .i64 v.2] hx rfl ?_ ?_ xab (by unfold maxLen;omega) xaa hbase _ rfl ?_
 ·intro j u hu
  match j,hu with
  |0,hu=>cases hu;exact h0
  |1,hu=>cases hu;exact h1
 ·intro u hu;simp at hu;rcases hu with rfl|rfl<;>rfl
 ·intro g cap w' h1 h2 h3 _
  have e:env.length+1=(env++[v]).length:=by rw[yak];rfl
  rw[e] at h1 ⊢
  refine h g cap _ w' rfl ?_ (gD h2) h3
  rw[Dp]
  exact h1
structure Sw (w:World)(P n cap T:Nat)(a:Option Addr)(bs:List Int)(i:Nat)(env:List (List UInt8×Int))(u:Value)(W:World):Prop where
 rd:RdF W P a n cap i bs
 own:W.ownsRow w.heap.size 85 2 u env.length (flE env)
 tb:∀m,m<7->W.cell? ⟨T,m,none⟩=some (.string ⟨(nmL.getD m []).toArray⟩)
 tl:T<W.heap.size
 wl:w.heap.size<=T
 p0:P<w.heap.size
 nt:u.ownBlock≠some T
 kp:Kept P (P+1) w W
variable {w W W':World} {P n cap T i j:Nat} {a:Option Addr} {bs:List Int} {env:List (List UInt8×Int)} {u:Value}
theorem Sw.step (h:Sw w P n cap T a bs i env u W)(r:RdF W' P a n cap j bs)(k:Kept P (P+1) W W'):Sw w P n cap T a bs j env u W':=
 have hp:=h.p0
 have hw:=h.wl
 ⟨r,fK h.own k λ_ e=>.inr (by have:=(eG h.own e).1;omega),λm hm=>(k.cell (p:=⟨T,m,none⟩) h.tl (by show ¬(P<=T/\T<P+1);omega)).trans (h.tb m hm),yaj h.tl k.size,hw,hp,h.nt,h.kp.trans k⟩
theorem Sw.keep0 (h:Sw w P n cap T a bs i env u W)(k:Kept 0 0 W W'):Sw w P n cap T a bs i env u W':=h.step (h.rd.keep0 k) (e8 k)
theorem Sw.next (h:Hid (Sw w P n cap T a bs i env u W)):Calls prog 19 #[.pointer (some ⟨P,0,none⟩)] W λe W'=>e=.returned (.int .i64 (nv bs i:Int))/\Sw w P n cap T a bs (ni bs i) env u W':=
 (iu W P a n cap i bs h.out.rd).mono λ_ _ ⟨e,r,k,_⟩=>⟨e,h.out.step r k⟩
theorem Sw.form (h:Sw w P n cap T a bs i env u W):∃aE cE,u=.slice aE env.length cE:=by
 exact xhz
theorem Sw.call {aE:Option Addr}{nE cE f m:Nat}{xs:Xd->Array Value}{s:ByteArray}(h:Hid (Sw w P n cap T a bs i env (.slice aE nE cE) W))(hl:nE<=100)(hd:Dr env bs i f xs m s j):
  Calls prog f (xs ⟨W,P,n,cap,nE,cE,a,aE⟩) W λe W'=>e=.returned (.string s)/\Sw w P n cap T a bs j env (.slice aE nE cE) W'/\Kept P (P+1) W W':=by
 have hn:nE=env.length:=iX h.out.own
 subst hn
 refine(hd.2 ⟨W,P,n,cap,env.length,cE,a,aE⟩ W ⟨h.out.rd,⟨rfl,hl,λk hk=>?_⟩,Kept.refl _ _ _⟩).mono λ_ _ ⟨e,hs⟩=>⟨e,h.out.step hs.rd hs.kp,hs.kp⟩
 replace hk:k<env.length:=hk
 obtain⟨g,c,e,h1,h2⟩:=h.out.own.form xaa
 injection e with e1
 have q:=λm v z=>h.out.own.cells (g:=g) (by rw[e1];rfl) m v z
 simp only[i8,Nat.zero_add] at q
 have hp:=h.out.p0
 exact⟨g,e1,by show P<g;omega,h2,q _ _ (vB env k hk).1,q _ _ (vB env k hk).2⟩
theorem Sw.last {es:List (List UInt8×Int)}{v:List UInt8×Int}(h:Sw w P n cap T a bs i env u W)(ee:env=es++[v]):∃g cE,u=.slice (some ⟨g,0,none⟩) env.length cE/\W.cell? ⟨g,es.length*2,none⟩=some (.string ⟨v.1.toArray⟩)/\W.cell? ⟨g,es.length*2+1,none⟩=some (.int .i64 v.2):=by
 have hl:env.length=es.length+1:=by rw[ee,yak];rfl
 obtain⟨g,c,e,_,_⟩:=h.own.form xaa
 have q:=λm v z=>h.own.cells (g:=g) (by rw[e];rfl) m v z
 simp only[i8,Nat.zero_add] at q
 have z:=vB env es.length xaa
 have e2:env.getD es.length ([],0)=v:=by simp[ee,List.getD_eq_getElem?_getD]
 rw[e2] at z
 exact⟨g,c,e,q _ _ z.1,q _ _ z.2⟩
theorem Sw.app (h:Sw w P n cap T a bs i env u W)(v:List UInt8×Int){g c m:Nat}(hm:m=(env++[v]).length)(o:W'.ownsRow w.heap.size 85 2 (.slice (some ⟨g,0,none⟩) m c) m (flE (env++[v])))(k:Chg (λb=>u.ownBlock=some b) W W')(hg:u.ownBlock=some g\/g=W.heap.size):Sw w P n cap T a bs i (env++[v]) (.slice (some ⟨g,0,none⟩) m c) W':=by
 have hp:=h.p0
 subst hm
 have kk:Kept w.heap.size W.heap.size W W':=⟨k.os,k.tape,k.output,k.size,λb hb hn=>k.block b hb λe=>hn (eG h.own e)⟩
 refine⟨h.rd.keep kk (.inl hp),o,λm hm=>(k.cell (p:=⟨T,m,none⟩) h.tl h.nt).trans (h.tb m hm),yaj h.tl k.size,h.wl,hp,?_,h.kp.new kk yad⟩
 rcases hg with e|e
 ·show some g≠some T
  rw[<-e]
  exact h.nt
 ·have:=h.tl
  simp only[Value.ownBlock]
  intro c
  injection c
  omega
end
section
open Go.RowKit Flt
structure TxA (w:World)(a:Option Addr)(n:Nat)(t:List UInt8):Prop where
 len:t.length=n
 at_:0<n->∃g off,a=some ⟨g,off,none⟩/\TxS w g off n t
theorem TxA.keep {w w':World}{a:Option Addr}{n:Nat}{t:List UInt8}(h:TxA w a n t)(k:Kept 0 0 w w'):TxA w' a n t:=
 ⟨h.len,λhn=>by obtain⟨g,off,e,h1⟩:=h.at_ hn;exact⟨g,off,e,h1.keep k⟩⟩
end
section
open Go.RowKit Flt
attribute [local go_sem] eD eB eA
variable {l:List (List UInt8)} {gap:ByteArray} {L Z P n cap:Nat} {w:World} {a:Option Addr}
variable {bs:List Int}
theorem GL {α:Type}{G:Nat->α->Prop}{R:Nat->α->α->Prop}(h:∀k a,G k a->∃b,G (k+1) b/\R k a b){a0:α}(h0:G 0 a0):∃f:Nat->α,f 0=a0/\∀k,G k (f k)/\R k (f k) (f (k+1)):=by
 let F:(k:Nat)->{a//G k a}:=λk=>Nat.rec ⟨a0,h0⟩ (λk x=>⟨Classical.choose (h k x.1 x.2),(Classical.choose_spec (h k x.1 x.2)).1⟩) k
 exact⟨λk=>(F k).1,rfl,λk=>⟨(F k).2,(Classical.choose_spec (h k _ (F k).2)).2⟩⟩
structure Ss where
 e:List (List UInt8×Int)
 o:ByteArray
 i:Nat
def Gs (L Z:Nat)(s:Ss):Prop:=s.e.length=L/\(∀x∈s.e,x.1.length<=5)/\s.o.size<=Z
def nmB (k:Nat):List UInt8:=nmL.getD k []
theorem sI (k:Nat):(nmB k).length<=5:=by
 match k with
 |0|1|2|3|4|5|6=>decide
 |k+7=>exact Nat.zero_le _
theorem nv3 (i:Nat):1<=1+(nv bs i:Int)%3/\1+(nv bs i:Int)%3<=3:=xaa
theorem Gs.put {L Z z:Nat}{s:Ss}(h:Gs L Z s)(k:Nat)(q:Int)(x:ByteArray)(j:Nat)(hx:x.size<=z):Gs (L+1) (Z+z) ⟨s.e++[(nmB k,q)],s.o++x,j⟩:=
 ⟨by rw[yak,h.1];rfl,λy hy=>by
  rcases List.mem_append.1 hy with c|c
  ·exact h.2.1 y c
  ·rw[List.mem_singleton.1 c];exact sI k,by have:=h.2.2;rw[yaq];omega⟩
def ex3 (q:Int)(d:Int):Xd->Array Value:=λX=>#[.slice X.aE X.nE X.cE,.int .i64 q,.int .i64 d,.pointer (some ⟨X.P,0,none⟩)]
def inX (bs:List Int)(gap:ByteArray)(k:Nat)(s:Ss):ByteArray:=⟨#[105,110,32]⟩++⟨(nmB k).toArray⟩++⟨#[32,58,32]⟩++⟨(f4 (1+nv bs s.i%3)).toArray⟩++⟨#[59]⟩++gap
def R1 (bs:List Int)(gap:ByteArray)(k:Nat)(s s':Ss):Prop:=s'=⟨s.e++[(nmB k,1+(nv bs s.i:Int)%3)],s.o++inX bs gap k s,ni bs s.i⟩
def R2 (bs:List Int)(gap:ByteArray)(n k:Nat)(s s':Ss):Prop:=∃x j,Dr s.e bs (ni bs s.i) 48 (ex3 (1+(nv bs s.i:Int)%3) 3) 64000 x j/\s'=⟨s.e++[(nmB (n+k),1+(nv bs s.i:Int)%3)],s.o++(⟨#[108,101,116,32]⟩++⟨(nmB (n+k)).toArray⟩++⟨#[32,61,32]⟩++x++⟨#[59]⟩++gap),j⟩
def R3 (bs:List Int)(gap:ByteArray)(_:Nat)(s s':Ss):Prop:=∃x j,Dr s.e bs (ni bs s.i) 48 (ex3 (1+(nv bs s.i:Int)%3) 4) 256000 x j/\s'=⟨s.e,s.o++(⟨#[111,117,116,32]⟩++x++⟨#[59]⟩++gap),j⟩
theorem Jc (hg:gap.size<=8){s:Ss}(h:Gs L Z s):∃f:Nat->Ss,f 0=s/\∀k,Gs (L+k) (Z+k*100) (f k)/\R1 bs gap k (f k) (f (k+1)):=
 GL (G:=λk=>Gs (L+k) (Z+k*100)) (λk a hG=>by
  have:=(hG.put k (1+(nv bs a.i:Int)%3) (inX bs gap k a) (ni bs a.i) (z:=100) (by
   have:=sI k
   have:=iW (1+nv bs a.i%3)
   simp only[inX,yaq,fQ,yap,List.length_nil]
   omega))
  rw[show L+k+1=L+(k+1) by omega,show Z+k*100+100=Z+(k+1)*100 by omega] at this
  exact⟨_,this,rfl⟩) h
theorem Jd (hb:∀i,nv bs i<256)(hg:gap.size<=8){s:Ss}(n:Nat)(h:Gs L Z s):∃f:Nat->Ss,f 0=s/\∀k,Gs (L+k) (Z+k*64100) (f k)/\R2 bs gap n k (f k) (f (k+1)):=
 GL (G:=λk=>Gs (L+k) (Z+k*64100)) (λk a hG=>by
  obtain⟨x,j,hd⟩:=A5 hG.2.1 hb 3 xab _ (nv3 (bs:=bs) a.i) (ni bs a.i)
  have hx:=hd.1
  have:=(hG.put (n+k) (1+(nv bs a.i:Int)%3) (⟨#[108,101,116,32]⟩++⟨(nmB (n+k)).toArray⟩++⟨#[32,61,32]⟩++x++⟨#[59]⟩++gap) j (z:=64100) (by
   have:=sI (n+k)
   simp only[yaq,fQ,yap,List.length_nil]
   omega))
  rw[show L+k+1=L+(k+1) by omega,show Z+k*64100+64100=Z+(k+1)*64100 by omega] at this
  exact⟨_,this,x,j,hd,rfl⟩) h
theorem Je (hb:∀i,nv bs i<256)(hg:gap.size<=8){s:Ss}(h:Gs L Z s):∃f:Nat->Ss,f 0=s/\∀k,Gs L (Z+k*256100) (f k)/\R3 bs gap k (f k) (f (k+1)):=
 GL (G:=λk=>Gs L (Z+k*256100)) (λk a hG=>by
  obtain⟨x,j,hd⟩:=A5 hG.2.1 hb 4 xab _ (nv3 (bs:=bs) a.i) (ni bs a.i)
  have hx:=hd.1
  exact⟨⟨a.e,a.o++(⟨#[111,117,116,32]⟩++x++⟨#[59]⟩++gap),j⟩,⟨hG.1,hG.2.1,by
   have:=hG.2.2
   simp only[yaq,fQ,yap,List.length_nil]
   omega⟩,x,j,hd,rfl⟩) h
variable {bs:List Int}
def mg (l:List (List UInt8)):Array Value:=(l.map λx=>Value.string ⟨x.toArray⟩).toArray
def gapL:List (List UInt8):=[[32],[10],[32,32,35,32,61,32,59,10]]
def bodL:List (List UInt8):=[[112,42,112,32,43,32,49],[101,120,112,40,45,112,41],[112,32,47,32,40,49,32,43,32,112,42,112,41],[109,97,120,40,112,44,32,45,112,41],[103,114,97,100,40,115,117,109,40,112,42,112,42,112,41,44,32,112,41]]
theorem nW {W:World}{ty:TypeId}(k:Kept P (P+1) (w.alloc (.cells (mg l) ty)) W)(hp:P<w.heap.size){m:Nat}(hm:m<l.length):W.cell? ⟨w.heap.size,m,none⟩=some (.string ⟨(l.getD m []).toArray⟩):=by
 rw[k.cell (p:=⟨w.heap.size,m,none⟩) xac (by show ¬(P<=w.heap.size/\w.heap.size<P+1);omega),yau]
 simp[mg,List.getD_eq_getElem?_getD,List.getElem?_eq_getElem hm]
theorem A6 {z:Nat}(h:∀x∈l,x.length<=z)(m:Nat):(⟨(l.getD m []).toArray⟩:ByteArray).size<=z:=by
 rw[fQ,yah]
 cases e:l[m]? with
 |none=>exact Nat.zero_le _
 |some x=>exact h x (List.mem_of_getElem? e)
def SrO (w:World)(P n cap:Nat)(a:Option Addr)(bs:List Int)(j:Nat)(t:List UInt8)(e:Ending)(w':World):Prop:=∃g c,e=.returned (.slice (some ⟨g,0,none⟩) t.length c)/\t.length<=c/\YS w' (some ⟨g,0,none⟩) t.length (gc t)/\RdF w' P a n cap j bs/\Kept P (P+1) w w'
theorem Sw.start {W:World}{i:Nat}{env:List (List UInt8×Int)}{u:Value}(rd:RdF W P a n cap i bs)(own:W.ownsRow w.heap.size 85 2 u env.length (flE env))(kp:Kept P (P+1) w W)(p0:P<w.heap.size):Hid (Sw w P n cap W.heap.size a bs i env u (W.alloc (.cells (mg nmL) 9))):=
 have k:=ez 0 0 W (.cells (mg nmL) 9)
 ⟨rd.keep0 k,eO own k,λ_ hm=>nW (l:=nmL) (Kept.refl P _ _) (yaj p0 kp.size) hm,by simp,kp.size,p0,λe=>by have:=(eG own e).2;omega,kp.trans (e8 k)⟩
def rpX (gap:ByteArray)(c:Nat)(nl:List UInt8)(x:ByteArray):ByteArray:=⟨#[114,101,112,101,97,116,32]⟩++⟨(f4 (c/5%4)).toArray⟩++⟨#[32]⟩++⟨nl.toArray⟩++⟨#[32,61,32]⟩++x++⟨#[59]⟩++gap
def hd0 (body gap:ByteArray):ByteArray:=⟨#[]⟩++(⟨#[100,101,102,32,102,40,112,41,32,61,32]⟩++body++⟨#[59]⟩++gap)
theorem x7 (W:World)(tx:List UInt8):(convert 9 22 (.string ⟨tx.toArray⟩)).run prog W=.ok (.slice (some ⟨W.heap.size,0,none⟩) tx.length (grownCap W tx.length 0 5)) (Lib.bytesWorld W 5 ⟨tx.toArray⟩):=
 Lib.run_convert_string_bytes (P:=prog) W 9 22 5 ⟨tx.toArray⟩ underlying9 underlying22 underlying5
theorem WkM {P:Prop}(h:P:=by
  try dsimp only at e4
  go_upto_region 31 with (go_at_call 19;refine yai (Sw.next HS) ?_;rintro e W6 ⟨rfl,hS⟩;clear HS;have HS:Hid _:=hS;clear hS)
  go_wp2_with fail
  go_loopw [6,19] (λo t W=>∃k:Nat,k<=m3/\t=.int .i64 (k:Int)/\o=.string (f3 k).o/\Hid (Sw w P n cap T a bs (f3 k).i (f3 k).e (.slice aE (f2 mm).e.length cE) W)) (λ_ t _=>m3-(intOf t).toNat)
  case atStart=>
   have e1:=H3.out.1
   exact⟨0,Nat.zero_le _,rfl,by rw[e1],by rw[e1];exact HS.out⟩
  case round=>
   obtain⟨k,hk,rfl,rfl,hS⟩:=hrel
   clear HS
   by_cases hlt:k<m3
   ·have hG:=(H3.out.2 k).1
    have hG':=(H3.out.2 (k+1)).1
    obtain⟨x,jx,hD,hr⟩:=(H3.out.2 k).2
    have z:((f3 k).o++(⟨#[111,117,116,32]⟩++x++⟨#[59]⟩++gap)).size<=1000000:=by
     exact xhc
    have z1:(⟨#[111,117,116,32]⟩++x++⟨#[59]⟩++gap:ByteArray).size<=1000000:=by rw[yaq] at z;omega
    have HQ:Hid _:=hr
    have HSk:Hid _:=hS.out
    clear hG hG' hr hS
    generalize f3 k=s at*
    have hx:=hb s.i
    repeat (rw[yaq] at z;refine sz2 z ?_;clear z;intro _ z)
    repeat (rw[yaq] at z1;refine sz2 z1 ?_;clear z1;intro _ z1)
    go_wp2_with (first
     |(go_at_call 19;refine yai (Sw.next HSk) ?_;rintro e W8 ⟨rfl,hS⟩;clear HSk;have HSk:Hid _:=hS;clear hS)
     |(go_at_call 48;have hC:=Sw.call HSk HL.out hD;simp only[ex3] at hC;(with_reducible refine yai hC ?_);clear hC;rintro e W9 ⟨rfl,hS,-⟩;clear HSk;have HSk:Hid _:=hS;clear hS))
    go_roundw
    case rel=>
     refine⟨k+1,by omega,by go_num,?_,?_⟩
     ·rw[HQ.out]
     ·rw[HQ.out];exact HSk.out
    case measure=>simp[intOf];omega
   ·have hk2:k=m3:=xaa
    have HS:Hid _:=hS.out
    clear hS hk hlt
    rw[hk2] at HS ⊢
    clear hk2 k
    subst hj
    have tk:¬((m3:Int)<(m3:Int)):=xaa
    have hcv:=x7 wr t
    have HY:Hid _:=nd wr 5 t
    have HKc:Hid _:=kK wr 5 ⟨t.toArray⟩
    generalize Lib.bytesWorld wr 5 ⟨t.toArray⟩=w5 at hcv HY HKc
    have HGe:Hid _:=grownCap_ge wr t.length 0 5
    generalize grownCap wr t.length 0 5=cc at hcv HGe
    rcases ht.out with⟨h4,et⟩|⟨h4,et⟩
    ·rw[et] at hcv
     have t4:¬(4000<((f3 m3).o.size:Int)):=xaa
     clear et
     go_wp2
     go_ret
     exact⟨_,cc,rfl,HGe.out,HY.out,HS.out.rd.keep0 HKc.out,HS.out.kp.trans (e8 HKc.out)⟩
    ·rw[et] at hcv
     have t4:4000<((f3 m3).o.size:Int):=xaa
     clear et
     go_wp2
     go_ret
     exact⟨_,cc,rfl,HGe.out,HY.out,HS.out.rd.keep0 HKc.out,HS.out.kp.trans (e8 HKc.out)⟩):P:=h
theorem WkL {P:Prop}(h:P:=by
  have HN:Hid _:=iu _ _ _ _ _ _ _ HR.out
  go_upto_region 11 with (go_at_call 19;refine yai HN.out ?_;rintro e W6 ⟨rfl,hR,k6,-⟩;have HS:Hid _:=Sw.start hR (fK HO.out k6 λ_ e=>.inr (by have:=(eG HO.out e).1;omega)) (HK.out.trans k6) hP;clear hR k6)
  clear HN HO HR HK
  go_upto_region 12 with fail
  change Code.wp _ _ _ _ (W6.alloc (.cells (mg nmL) 9))
  generalize W6.alloc (.cells (mg nmL) 9)=W7 at*
  generalize W6.heap.size=T at*
  go_wp2_with fail
  go_loopw [5,6,11] (λu o t W=>∃k:Nat,k<=nn/\t=.int .i64 (k:Int)/\o=.string (f1 k).o/\Hid (Sw w P n cap T a bs (f1 k).i (f1 k).e u W)) (λ_ _ t _=>nn-(intOf t).toNat)
  case atStart=>
   have e:=HE.out
   have e1:=H1.out.1
   subst e
   exact⟨0,Nat.zero_le _,rfl,by rw[e1],by rw[e1];exact HS.out⟩
  case round=>
   obtain⟨k,hk,rfl,rfl,hS⟩:=hrel
   clear HS HE
   by_cases hlt:k<nn
   ·have hG:=(H1.out.2 k).1
    have hG':=(H1.out.2 (k+1)).1
    have hr:=(H1.out.2 k).2
    have z:((f1 k).o++inX bs gap k (f1 k)).size<=1000000:=by
     exact xhc
    have z1:(inX bs gap k (f1 k)).size<=1000000:=by rw[yaq] at z;omega
    have HG:Hid _:=hG
    have HQ:Hid _:=hr
    have HSk:Hid _:=hS.out
    clear hG hG' hr hS
    unfold R1 inX at HQ
    unfold inX at z z1
    generalize f1 k=s at*
    have hx:=hb s.i
    have HD:Hid (∀W:World,Calls prog 47 #[.int .i64 (1+(nv bs s.i:Int)%3)] W λe w'=>e=.returned (eE (f4 (1+nv bs s.i%3)))/\w'=W):=λW=>by
     rw[show(1:Int)+(nv bs s.i:Int)%3=((1+nv bs s.i%3:Nat):Int) by omega]
     exact tJ _ _ yad xaa W
    unfold eE at HD
    generalize (⟨(f4 (1+nv bs s.i%3)).toArray⟩:ByteArray)=ds at HD HQ z z1
    go_upto_region 16 with (go_at_call 19;refine yai (Sw.next HSk) ?_;rintro e W8 ⟨rfl,hS⟩;clear HSk;have HSk:Hid _:=hS;have hnm:=hS.tb k xaa;clear hS)
    change W8.cell? ⟨T,k,none⟩=some (.string ⟨(nmB k).toArray⟩) at hnm
    generalize hnk:(⟨(nmB k).toArray⟩:ByteArray)=nk at hnm HQ z z1
    repeat (rw[yaq] at z;refine sz2 z ?_;clear z;intro _ z)
    repeat (rw[yaq] at z1;refine sz2 z1 ?_;clear z1;intro _ z1)
    have h7:(k:Int)<7:=xaa
    go_quiet ((go_at_call 47;exact Calls.quiet_of_same (HD.out _)))
    have HW:Hid (∀(m:Nat) (o:Obj),Sw w P n cap T a bs (ni bs s.i) s.e u5 ((W8.alloc o).drewN m)):=λm o=>(HSk.out.keep0 (ez 0 0 _ o)).keep0 (eK 0 0 _ m)
    have HC:Hid (∀m,((W8.alloc (.cells #[.string nk,.int .i64 (1+(nv bs s.i:Int)%3)] 85)).drewN m).cell? ⟨W8.heap.size,0,none⟩=some (.string ⟨(nmB k).toArray⟩)/\((W8.alloc (.cells #[.string nk,.int .i64 (1+(nv bs s.i:Int)%3)] 85)).drewN m).cell? ⟨W8.heap.size,1,none⟩=some (.int .i64 (1+(nv bs s.i:Int)%3))):=λm=>by rw[hnk];exact⟨by simp,by simp⟩
    have HL:Hid (s.e.length+1<=1000):=by have:=HG.out.1;show _<=_;omega
    go_wp2_with (at_builtin;refine jX _ rfl _ _ rfl w.heap.size u5 s.e rfl (HW.out _ _).own W8.heap.size (nmB k,1+(nv bs s.i:Int)%3) rfl (HC.out _).1 (HC.out _).2 HL.out (yan HSk.out.wl (Nat.le_of_lt (HW.out _ _).tl)) ?_;intro g9 c9 n9 w9 hn9 ho9 hk9 hat9;have HS9:Hid _:=(HW.out _ _).app _ hn9 ho9 hk9 hat9;clear hn9 ho9 hk9 hat9)
    exact xgq
   ·have hk2:k=nn:=xaa
    have HS:Hid _:=hS.out
    clear hS hk hlt
    rw[hk2] at HS ⊢
    clear hk2 k
    go_upto_region 19 with (go_at_call 19;refine yai (Sw.next HS) ?_;rintro e W6 ⟨rfl,hS⟩;clear HS;have HS:Hid _:=hS;clear hS)
    rw[em]
    go_wp2_with fail
    go_loopw [5,6,14] (λu o t W=>∃k:Nat,k<=mm/\t=.int .i64 (k:Int)/\o=.string (f2 k).o/\Hid (Sw w P n cap T a bs (f2 k).i (f2 k).e u W)) (λ_ _ t _=>mm-(intOf t).toNat)
    case atStart=>
     have e1:=H2.out.1
     exact⟨0,Nat.zero_le _,rfl,by rw[e1],by rw[e1];exact HS.out⟩
    case round=>
     obtain⟨k,hk,rfl,rfl,hS⟩:=hrel
     clear HS
     by_cases hlt:k<mm
     ·have hG:=(H2.out.2 k).1
      have hG':=(H2.out.2 (k+1)).1
      obtain⟨x,jx,hD,hr⟩:=(H2.out.2 k).2
      have z:((f2 k).o++(⟨#[108,101,116,32]⟩++⟨(nmB (nn+k)).toArray⟩++⟨#[32,61,32]⟩++x++⟨#[59]⟩++gap)).size<=1000000:=by
       exact xhc
      have z1:(⟨#[108,101,116,32]⟩++⟨(nmB (nn+k)).toArray⟩++⟨#[32,61,32]⟩++x++⟨#[59]⟩++gap:ByteArray).size<=1000000:=by rw[yaq] at z;omega
      have HG:Hid _:=hG
      have HQ:Hid _:=hr
      have HSk:Hid _:=hS.out
      obtain⟨aE,cE,hu⟩:=hS.out.form
      subst hu
      clear hG hG' hr hS
      generalize f2 k=s at*
      have hx:=hb s.i
      have t7:(nn:Int)+(k:Int)<7:=xaa
      have tk:(k:Int)<(mm:Int):=xaa
      have HL:Hid (s.e.length<=100):=by have:=HG.out.1;show _<=_;omega
      go_upto_region 24 with (first
       |(go_at_call 19;refine yai (Sw.next HSk) ?_;rintro e W8 ⟨rfl,hS⟩;clear HSk;have HSk:Hid _:=hS;clear hS)
       |(go_at_call 48;have hC:=Sw.call HSk HL.out hD;simp only[ex3] at hC;(with_reducible refine yai hC ?_);clear hC;rintro e W9 ⟨rfl,hS,-⟩;clear HSk;have HSk:Hid _:=hS;have hnm:=hS.tb (nn+k) xaa;clear hS))
      change W9.cell? ⟨T,nn+k,none⟩=some (.string ⟨(nmB (nn+k)).toArray⟩) at hnm
      generalize hnk:(⟨(nmB (nn+k)).toArray⟩:ByteArray)=nk at hnm HQ z z1
      repeat (rw[yaq] at z;refine sz2 z ?_;clear z;intro _ z)
      repeat (rw[yaq] at z1;refine sz2 z1 ?_;clear z1;intro _ z1)
      have HW:Hid (∀(o:Obj),Sw w P n cap T a bs jx s.e _ (W9.alloc o)):=λo=>HSk.out.keep0 (ez 0 0 _ o)
      have HC:Hid ((W9.alloc (.cells #[.string nk,.int .i64 (1+(nv bs s.i:Int)%3)] 85)).cell? ⟨W9.heap.size,0,none⟩=some (.string ⟨(nmB (nn+k)).toArray⟩)/\(W9.alloc (.cells #[.string nk,.int .i64 (1+(nv bs s.i:Int)%3)] 85)).cell? ⟨W9.heap.size,1,none⟩=some (.int .i64 (1+(nv bs s.i:Int)%3))):=by rw[hnk];exact⟨by simp,by simp⟩
      have HL':Hid (s.e.length+1<=1000):=by have:=HG.out.1;show _<=_;omega
      go_wp2_with (at_builtin;refine jX _ rfl _ _ rfl w.heap.size (.slice aE s.e.length cE) s.e rfl (HW.out _).own W9.heap.size (nmB (nn+k),1+(nv bs s.i:Int)%3) rfl HC.out.1 HC.out.2 HL'.out (yan HSk.out.wl (Nat.le_of_lt (HW.out _).tl)) ?_;intro g9 c9 n9 w9 hn9 ho9 hk9 hat9;have HS9:Hid _:=(HW.out _).app _ hn9 ho9 hk9 hat9;clear hn9 ho9 hk9 hat9)
      exact xgq
     ·have hk2:k=mm:=xaa
      have HS:Hid _:=hS.out
      clear hS hk hlt
      rw[hk2] at HS ⊢
      clear hk2 k
      have tk:¬((mm:Int)<(mm:Int)):=xaa
      have Z0:Hid ((f2 mm).o.size<=200000):=yan (H2.out.2 mm).1.2.2 xaa
      have HL:Hid ((f2 mm).e.length<=100):=by have:=(H2.out.2 mm).1.1;show _<=_;omega
      rcases h3.out with⟨hc5,e3⟩|⟨hm0,hc5,es,nl,q,x,jx,ee,hD,zr,e3⟩
      ·rcases (by omega:mm=0\/(0<mm/\¬(c:Int)%5=1)) with hm0|⟨hm0,hc6⟩
       ·have tm:¬(0<(mm:Int)):=xaa
        clear hm0 hc5
        exact xii
       ·have tm:0<(mm:Int):=xaa
        exact xii
      ·have tm:0<(mm:Int):=xaa
       obtain⟨gE,cE,hu,y0,y1⟩:=HS.out.last ee
       subst hu
       have tN:((f2 mm).e.length:Int)-1=(es.length:Int):=by rw[ee,yak];simp
       have tM:(es.length:Int)<((f2 mm).e.length:Int):=xaa
       clear ee
       have tB:=HL.out
       go_upto_region 28 with fail
       have HS1:Hid _:=HS.out.keep0 (ez 0 0 wr (.cells #[.string ⟨nl.toArray⟩,.int .i64 q] 85))
       have HT:Hid (∀W',Kept P (P+1) (wr.alloc (.cells #[.string ⟨nl.toArray⟩,.int .i64 q] 85)) W'->W'.cell? ⟨wr.heap.size,0,none⟩=some (.string ⟨nl.toArray⟩)):=λW' k=>by
        have h1:=HS.out.rd.lt
        rw[k.cell (p:=⟨wr.heap.size,0,none⟩) xac (by show ¬(P<=wr.heap.size/\wr.heap.size<P+1);omega)]
        simp
       have z:((f2 mm).o++rpX gap c nl x).size<=1000000:=by have:=Z0.out;rw[yaq];omega
       have z1:(rpX gap c nl x).size<=1000000:=xaa
       have HD:Hid (∀W:World,Calls prog 47 #[.int .i64 ((c:Int)/5%4)] W λe w'=>e=.returned (eE (f4 (c/5%4)))/\w'=W):=λW=>by
        rw[show(c:Int)/5%4=((c/5%4:Nat):Int) by omega]
        exact tJ _ _ yad xaa W
       unfold rpX at z z1 e3
       unfold eE at HD
       generalize (⟨(f4 (c/5%4)).toArray⟩:ByteArray)=ds at HD e3 z z1
       generalize (⟨nl.toArray⟩:ByteArray)=nk at HT HS1 e3 z z1 ⊢
       go_upto_region 29 with (go_at_call 48;have hC:=Sw.call HS1 HL.out hD;simp only[ex3] at hC;(with_reducible refine yai hC ?_);clear hC;rintro e W9 ⟨rfl,hS,k9⟩;have y2:=HT.out W9 k9;clear HS HS1;have HS:Hid _:=hS;clear hS k9)
       repeat (rw[yaq] at z;refine sz2 z ?_;clear z;intro _ z)
       repeat (rw[yaq] at z1;refine sz2 z1 ?_;clear z1;intro _ z1)
       go_quiet ((go_at_call 47;exact Calls.quiet_of_same (HD.out _)))
       go_upto_region 30 with fail
       subst e3
       replace HS:Hid _:=HS.out.keep0 (eK 0 0 W9 nq)
       generalize some (⟨gE,0,none⟩:Addr)=aE at HS ⊢
       exact WkM):P:=h
theorem Jf (hb:∀i,nv bs i<256){i kg c:Nat}(hc:nv bs (ni bs i)=c)(hkg:kg<3)(eg:(nv bs i:Int)%3=(kg:Int))(zg:gap.size<=8)(hgap:⟨(gapL.getD kg []).toArray⟩=gap)
  {body:ByteArray} {kb:Nat} (eb:(c:Int)/2%5=(kb:Int)) (hkb:kb<5) (hbod:⟨(bodL.getD kb []).toArray⟩=body) (zb:body.size<=30)
  {s0:Ss} (h0:((c:Int)%2=1/\Hid (s0=⟨[([102],0)],hd0 body gap,ni bs (ni bs i)⟩))\/((c:Int)%2=0/\Hid (s0=⟨[],⟨#[]⟩,ni bs (ni bs i)⟩)))
  {f1:Nat->Ss} {L1 Z1:Nat} (H1:Hid (f1 0=⟨s0.e,s0.o,ni bs s0.i⟩/\∀k,Gs (L1+k) (Z1+k*100) (f1 k)/\R1 bs gap k (f1 k) (f1 (k+1)))) (hL1:L1<=1) (hZ1:Z1<=1000)
  {nn:Nat} (en:1+(nv bs (ni bs (ni bs i)):Int)%3=(nn:Int)) (_hn3:nn<=3)
  {f2:Nat->Ss} {L2 Z2:Nat} (H2:Hid (f2 0=⟨(f1 nn).e,(f1 nn).o,ni bs (f1 nn).i⟩/\∀k,Gs (L2+k) (Z2+k*64100) (f2 k)/\R2 bs gap nn k (f2 k) (f2 (k+1)))) (hL2:L2<=4) (hZ2:Z2<=2000)
  {mm:Nat} (em:(nv bs (f1 nn).i:Int)%4=(mm:Int)) (_hm3:mm<=3)
  {s3:Ss} (h3:Hid (((mm=0\/¬(c:Int)%5=1)/\s3=f2 mm)\/(0<mm/\(c:Int)%5=1/\∃es nl q x jx,(f2 mm).e=es++[(nl,q)]/\Dr (f2 mm).e bs (f2 mm).i 48 (ex3 q 2) 16000 x jx/\(rpX gap c nl x).size<=100000/\s3=⟨(f2 mm).e,(f2 mm).o++rpX gap c nl x,jx⟩)))
  {f3:Nat->Ss} {L3 Z3:Nat} (H3:Hid (f3 0=⟨s3.e,s3.o,ni bs s3.i⟩/\∀k,Gs L3 (Z3+k*256100) (f3 k)/\R3 bs gap k (f3 k) (f3 (k+1)))) (_hL3:L3<=10) (hZ3:Z3<=220000)
  {m3:Nat} (e4:1+(nv bs s3.i:Int)%3=(m3:Int)) (hm33:m3<=3)
  {t:List UInt8} {j:Nat} (hj:j=(f3 m3).i) (ht:Hid (((f3 m3).o.size<=4000/\⟨t.toArray⟩=(f3 m3).o)\/(4000<(f3 m3).o.size/\⟨t.toArray⟩=(f3 m3).o.extract 0 4000))) (hR:RdF w P a n cap i bs):Calls prog 22 #[.pointer (some ⟨P,0,none⟩)] w (SrO w P n cap a bs j t):=by
 have hP:=hR.lt
 have hcb:(c:Int)<256:=by have:=hb (ni bs i);omega
 have HS:Hid _:=hR
 clear hR
 go_enter func22,ntmps22
 go_upto_region 2 with fail
 change Code.wp _ _ _ _ (w.alloc (.cells (mg gapL) 9))
 have HR1:Hid _:=HS.out.keep0 (ez 0 0 w (.cells (mg gapL) 9))
 have HN:Hid _:=iu _ _ _ _ _ _ _ HR1.out
 have HT:Hid (∀W,Kept P (P+1) (w.alloc (.cells (mg gapL) 9)) W->_):=λW k=>nW (l:=gapL) (m:=kg) k hP hkg
 have HK:Hid _:=ez P (P+1) w (.cells (mg gapL) 9)
 clear HS HR1
 generalize w.alloc (.cells (mg gapL) 9)=W1 at*
 rw[hgap] at HT
 clear hgap
 go_upto_region 5 with (go_at_call 19;refine yai HN.out ?_;rintro e W2 ⟨rfl,hR,k2,-⟩;have hg:=HT.out W2 k2;have HK2:Hid _:=HK.out.trans k2;have HN2:Hid _:=iu _ _ _ _ _ _ _ hR;clear hR k2)
 clear hg HT HN HK
 rw[hc] at HN2
 rcases h0 with⟨c2,HE⟩|⟨c2,HE⟩
 ·go_upto_region 7 with (go_at_call 19;refine yai HN2.out ?_;rintro e W3 ⟨rfl,hR,k3,-⟩;have HK3:Hid _:=HK2.out.trans k3;have HR3:Hid _:=hR;have hP3:=hR.lt;clear hR k3)
  clear HN2 HK2
  go_upto_region 8 with fail
  change Code.wp _ _ _ _ (W3.alloc (.cells (mg bodL) 9))
  have hbd:=nW (l:=bodL) (m:=kb) (Kept.refl P (P+1) (W3.alloc (.cells (mg bodL) 9))) hP3 hkb
  rw[hbod] at hbd
  have HR4:Hid _:=HR3.out.keep0 (ez 0 0 W3 (.cells (mg bodL) 9))
  have HK4:Hid _:=HK3.out.trans (ez _ _ W3 (.cells (mg bodL) 9))
  clear HR3 HK3
  generalize W3.alloc (.cells (mg bodL) 9)=W4 at*
  have z:(hd0 body gap).size<=1000:=by
   simp only[hd0,yaq,fQ,yap,List.length_nil]
   omega
  unfold hd0 at z HE
  have z1:(⟨#[100,101,102,32,102,40,112,41,32,61,32]⟩++body++⟨#[59]⟩++gap:ByteArray).size<=1000000:=by rw[yaq] at z;omega
  replace z:=yan z (by decide:1000<=1000000)
  repeat (rw[yaq] at z;refine sz2 z ?_;clear z;intro _ z)
  repeat (rw[yaq] at z1;refine sz2 z1 ?_;clear z1;intro _ z1)
  have k5:=ez 0 0 W4 (.cells #[.string ⟨#[102]⟩,.int .i64 0] 85)
  have HR5:Hid _:=HR4.out.keep0 k5
  have HK5:Hid _:=HK4.out.trans (e8 k5)
  clear HR4 HK4
  have hW:w.heap.size<=(W4.alloc (.cells #[.string ⟨#[102]⟩,.int .i64 0] 85)).heap.size:=HK5.out.size
  go_upto_region 10 with (at_builtin;refine jX _ rfl _ _ rfl w.heap.size gL [] rfl (yav _ _ _ _) W4.heap.size ([102],0) rfl xac xac xab hW ?_;intro g9 c9 n9 W5 hn9 ho9 hk9 _;subst hn9;have k9:Kept 0 0 _ W5:=⟨hk9.os,hk9.tape,hk9.output,hk9.size,λb hb _=>hk9.block b hb (λe=>by cases e)⟩;have HO:Hid (W5.ownsRow w.heap.size 85 2 (.slice (some ⟨g9,0,none⟩) 1 c9) ([([102],0)]:List (List UInt8×Int)).length (flE [([102],0)])):=ho9;have HR:Hid _:=HR5.out.keep0 k9;have HK:Hid _:=HK5.out.trans (e8 k9);clear hk9 k9 ho9)
  clear HR5 HK5 hW z z1
  exact WkL
 ·go_upto_region 10 with (go_at_call 19;refine yai HN2.out ?_;rintro e W3 ⟨rfl,hR,k3,-⟩;have HK:Hid _:=HK2.out.trans k3;have HR:Hid _:=hR;clear hR k3)
  have HO:Hid (W3.ownsRow w.heap.size 85 2 (.slice none 0 0) ([]:List (List UInt8×Int)).length (flE [])):=yav W3 w.heap.size 85 2
  clear HN2 HK2
  exact WkL
end
section
open Go.RowKit Flt
variable {bs:List Int}
theorem Jg (hb:∀i,nv bs i<256)(i:Nat):∃(t:List UInt8) (j:Nat),t.length<=4000/\∀{w:World} {P n cap:Nat} {a:Option Addr},RdF w P a n cap i bs->Calls prog 22 #[.pointer (some ⟨P,0,none⟩)] w (SrO w P n cap a bs j t):=by
 obtain⟨kg,hkg,eg⟩:∃k:Nat,k<3/\(nv bs i:Int)%3=(k:Int):=⟨nv bs i%3,by omega,by omega⟩
 obtain⟨c,hc⟩:∃c,nv bs (ni bs i)=c:=⟨_,rfl⟩
 have hc2:=hb (ni bs i)
 rw[hc] at hc2
 obtain⟨kb,hkb,eb⟩:∃k:Nat,k<5/\(c:Int)/2%5=(k:Int):=⟨c/2%5,by omega,by omega⟩
 have zg:=A6 (l:=gapL) (z:=8) xab kg
 have zb:=A6 (l:=bodL) (z:=30) xab kb
 generalize hgap:(⟨(gapL.getD kg []).toArray⟩:ByteArray)=gap at zg
 generalize hbod:(⟨(bodL.getD kb []).toArray⟩:ByteArray)=body at zb
 obtain⟨s0,L0,h0,g0,hL0⟩:∃s0 L,(((c:Int)%2=1/\Hid (s0=⟨[([102],0)],hd0 body gap,ni bs (ni bs i)⟩))\/((c:Int)%2=0/\Hid (s0=⟨[],⟨#[]⟩,ni bs (ni bs i)⟩)))/\Gs L 1000 s0/\L<=1:=by
  rcases (by omega:(c:Int)%2=1\/(c:Int)%2=0) with h|h
  ·exact⟨_,1,.inl ⟨h,rfl⟩,⟨rfl,by show ∀x∈[(([102]:List UInt8),(0:Int))],x.1.length<=5;decide,by simp only[hd0,yaq,fQ,yap,List.length_nil];omega⟩,by decide⟩
  ·exact⟨_,0,.inr ⟨h,rfl⟩,⟨rfl,(λ_ h=>by cases h),Nat.zero_le _⟩,by decide⟩
 obtain⟨f1,hf1⟩:=Jc (bs:=bs) zg (s:=⟨s0.e,s0.o,ni bs s0.i⟩) g0
 have es0:s0.i=ni bs (ni bs i):=by rcases h0 with h|h<;>rw[h.2.out]
 obtain⟨nn,hn3,en⟩:∃n:Nat,n<=3/\1+(nv bs (ni bs (ni bs i)):Int)%3=(n:Int):=⟨1+nv bs (ni bs (ni bs i))%3,by omega,by omega⟩
 obtain⟨f2,hf2⟩:=Jd hb zg (s:=⟨(f1 nn).e,(f1 nn).o,ni bs (f1 nn).i⟩) nn (hf1.2 nn).1
 obtain⟨mm,hm3,em⟩:∃n:Nat,n<=3/\(nv bs (f1 nn).i:Int)%4=(n:Int):=⟨nv bs (f1 nn).i%4,by omega,by omega⟩
 have g2:=(hf2.2 mm).1
 obtain⟨s3,h3,g3⟩:∃s3:Ss,(((mm=0\/¬(c:Int)%5=1)/\s3=f2 mm)\/(0<mm/\(c:Int)%5=1/\∃es nl q x jx,(f2 mm).e=es++[(nl,q)]/\Dr (f2 mm).e bs (f2 mm).i 48 (ex3 q 2) 16000 x jx/\(rpX gap c nl x).size<=100000/\s3=⟨(f2 mm).e,(f2 mm).o++rpX gap c nl x,jx⟩))/\Gs (L0+nn+mm) 220000 s3:=by
  by_cases h:mm=0\/¬(c:Int)%5=1
  ·exact⟨_,.inl ⟨h,rfl⟩,g2.1,g2.2.1,yan g2.2.2 xaa⟩
  ·obtain⟨m,rfl⟩:∃m,mm=m+1:=⟨mm-1,by omega⟩
   obtain⟨x0,j0,_,e0⟩:=(hf2.2 m).2
   obtain⟨x,jx,hd⟩:=A5 g2.2.1 hb 2 xab _ (nv3 (bs:=bs) (f2 m).i) (f2 (m+1)).i
   have z:(rpX gap c (nmB (nn+m)) x).size<=17000:=by
    have:=hd.1
    have:=sI (nn+m)
    have:=iW (c/5%4)
    simp only[rpX,yaq,fQ,yap,List.length_nil]
    omega
   exact⟨_,.inr ⟨by omega,by omega,_,_,_,x,jx,by rw[e0],hd,by omega,rfl⟩,g2.1,g2.2.1,by have:=g2.2.2;rw[yaq];omega⟩
 obtain⟨f3,hf3⟩:=Je hb zg (s:=⟨s3.e,s3.o,ni bs s3.i⟩) g3
 obtain⟨m3,hm33,e4⟩:∃n:Nat,n<=3/\1+(nv bs s3.i:Int)%3=(n:Int):=⟨1+nv bs s3.i%3,by omega,by omega⟩
 obtain⟨t,h4,ht⟩:∃t:List UInt8,t.length<=4000/\(((f3 m3).o.size<=4000/\⟨t.toArray⟩=(f3 m3).o)\/(4000<(f3 m3).o.size/\⟨t.toArray⟩=(f3 m3).o.extract 0 4000)):=by
  by_cases h:(f3 m3).o.size<=4000
  ·exact⟨(f3 m3).o.data.toList,h,.inl ⟨h,rfl⟩⟩
  ·exact⟨((f3 m3).o.extract 0 4000).data.toList,by show ByteArray.size _<=_;rw[ByteArray.size_extract];omega,.inr ⟨by omega,rfl⟩⟩
 exact⟨t,_,h4,λhR=>Jf hb hc hkg eg zg hgap eb hkb hbod zb h0 hf1 hL0 yad en hn3 hf2 xaa xaa em hm3 h3 hf3 xaa yad e4 hm33 rfl ht hR⟩
end
section
open Go.RowKit Flt
attribute [local go_sem] eD eB eA
variable {w W W':World} {P n cap i j:Nat} {a:Option Addr} {bs js:List Int} {u:Value}
structure Iw (w:World)(P n cap:Nat)(a:Option Addr)(bs:List Int)(i:Nat)(js:List Int)(u:Value)(W:World):Prop where
 rd:RdF W P a n cap i bs
 own:W.ownsRow w.heap.size 3 1 u js.length (js.map (Value.int .i64))
 p0:P<w.heap.size
 kp:Kept P (P+1) w W
theorem Iw.step (h:Iw w P n cap a bs i js u W)(r:RdF W' P a n cap j bs)(k:Kept P (P+1) W W'):Iw w P n cap a bs j js u W':=
 have hp:=h.p0
 ⟨r,fK h.own k λ_ e=>.inr (by have:=(eG h.own e).1;omega),hp,h.kp.trans k⟩
theorem Iw.keep0 (h:Iw w P n cap a bs i js u W)(k:Kept 0 0 W W'):Iw w P n cap a bs i js u W':=h.step (h.rd.keep0 k) (e8 k)
theorem Iw.next (h:Hid (Iw w P n cap a bs i js u W)):Calls prog 19 #[.pointer (some ⟨P,0,none⟩)] W λe W'=>e=.returned (.int .i64 (nv bs i:Int))/\Iw w P n cap a bs (ni bs i) js u W':=
 (iu W P a n cap i bs h.out.rd).mono λ_ _ ⟨e,r,k,_⟩=>⟨e,h.out.step r k⟩
theorem Iw.app (h:Iw w P n cap a bs i js u W){v:Int}{g c m:Nat}(hm:m=(js++[v]).length)(o:W'.ownsRow w.heap.size 3 1 (.slice (some ⟨g,0,none⟩) m c) m ((js++[v]).map (Value.int .i64)))(k:Chg (λb=>u.ownBlock=some b) W W'):Iw w P n cap a bs i (js++[v]) (.slice (some ⟨g,0,none⟩) m c) W':=by
 subst hm
 have kk:Kept w.heap.size W.heap.size W W':=⟨k.os,k.tape,k.output,k.size,λb hb hn=>k.block b hb λe=>hn (eG h.own e)⟩
 exact⟨h.rd.keep kk (.inl h.p0),o,h.p0,h.kp.new kk yad⟩
theorem Iw.form (h:Iw w P n cap a bs i js u W):∃aE cE,u=.slice aE js.length cE:=by
 exact xhz
def slN:Value->Nat
 |.slice _ m _=>m
 |_=>0
def PsO (w:World)(P n cap:Nat)(a:Option Addr)(bs:List Int)(j:Nat)(e:Ending)(w':World):Prop:=∃v,e=.returned v/\RdF w' P a n cap j bs/\Kept P (P+1) w w'
theorem Dq (hR:RdF w P a n cap i bs):Calls prog 10 #[.pointer (some ⟨P,0,none⟩)] w (PsO w P n cap a bs (niN bs (ni bs i) (nv bs i%6))):=by
 have hx:=fw hR.ys i
 have HN:Hid _:=iu _ _ _ _ _ _ _ hR
 have hP:=hR.lt
 have HY:Hid (∀j,nv bs j<256):=λj=>fw hR.ys j
 clear hR
 obtain⟨nn,hn6,en⟩:∃m:Nat,nv bs i%6=m/\(nv bs i:Int)%6=(m:Int):=⟨_,rfl,by omega⟩
 have h6:nn<6:=xaa
 rw[hn6]
 clear hn6
 go_enter func10,ntmps10
 go_upto_region 2 with (go_at_call 19;refine yai HN.out ?_;rintro e W1 ⟨rfl,hr,k1,-⟩;have HI:Hid (Iw w P n cap a bs (niN bs (ni bs i) 0) [] (.slice none 0 0) W1):=⟨hr,yav _ _ _ _,hP,k1⟩;clear hr k1)
 clear HN
 generalize nv bs i=x at*
 go_wp2_with fail
 rw[en]
 go_loopw [5,6] (λu t W=>∃(k:Nat) (js:List Int),k<=nn/\js.length=k/\t=.int .i64 (k:Int)/\Hid (Iw w P n cap a bs (niN bs (ni bs i) k) js u W)) (λ_ t _=>nn-(intOf t).toNat)
 case atStart=>exact⟨0,[],Nat.zero_le _,rfl,rfl,HI.out⟩
 case round=>
  obtain⟨k,js,hk,hj,rfl,hI⟩:=hrel
  clear HI
  have HJ:Hid _:=hj
  have hj7:js.length<=7:=xaa
  clear hj
  by_cases hlt:k<nn
  ·have HI:Hid _:=hI.out
   have HQ:Hid (niN bs (ni bs i) (k+1)=ni bs (niN bs (ni bs i) k)):=rfl
   clear hI
   generalize niN bs (ni bs i) k=p at*
   have hy:=HY.out p
   go_wp2_with (first
    |(go_at_call 19;refine yai (Iw.next HI) ?_;rintro e W2 ⟨rfl,hI⟩;have HW:Hid (∀o,Iw w P n cap a bs (ni bs p) js u5 (W2.alloc o)):=λo=>hI.keep0 (ez 0 0 _ o);clear hI HI)
    |(at_builtin;refine fk _ rfl _ _ rfl w.heap.size u5 js rfl (HW.out _).own ⟨W2.heap.size,0,none⟩ ((nv bs p:Int)%5) rfl xac xaa (HW.out _).kp.size ?_;intro g9 c9 n9 w9 hn9 ho9 hk9 _;have HI9:Hid _:=(HW.out _).app hn9 ho9 hk9;clear hn9 ho9 hk9))
   go_roundw
   case rel=>exact⟨k+1,js++[(nv bs p:Int)%5],by omega,by rw[yak,HJ.out];rfl,by go_num,by rw[HQ.out];exact HI9.out⟩
   case measure=>simp[intOf];omega
  ·have hk2:k=nn:=xaa
   subst hk2
   have HI:Hid _:=hI.out
   clear hI
   obtain⟨aE,cE,hu⟩:=HI.out.form
   subst hu
   have HW:Hid (∀o,Iw w P n cap a bs (niN bs (ni bs i) k) js (.slice aE js.length cE) (wr.alloc o)):=λo=>HI.out.keep0 (ez 0 0 _ o)
   rcases (by omega:(x:Int)=250\/(x:Int)=251\/(x:Int)=252\/((x:Int)≠250/\(x:Int)≠251/\(x:Int)≠252)) with hx|hx|hx|⟨hx,hx1,hx2⟩
   ·go_wp2_with (at_builtin;refine fk _ rfl _ _ rfl w.heap.size _ js rfl (HW.out _).own ⟨wr.heap.size,0,none⟩ 5 rfl xac xaa (HW.out _).kp.size ?_;intro g9 c9 n9 w9 hn9 ho9 hk9 _;have HI9:Hid _:=(HW.out _).app hn9 ho9 hk9;clear hn9 ho9 hk9)
    go_ret
    exact⟨_,rfl,HI9.out.rd,HI9.out.kp⟩
   ·go_wp2_with (at_builtin;refine fk _ rfl _ _ rfl w.heap.size _ js rfl (HW.out _).own ⟨wr.heap.size,0,none⟩ (-1) rfl xac xaa (HW.out _).kp.size ?_;intro g9 c9 n9 w9 hn9 ho9 hk9 _;have HI9:Hid _:=(HW.out _).app hn9 ho9 hk9;clear hn9 ho9 hk9)
    go_ret
    exact⟨_,rfl,HI9.out.rd,HI9.out.kp⟩
   ·clear HW en
    obtain rfl:x=252:=xaa
    go_wp2_with fail
    clear hx
    go_loopw [5] (λu W=>∃(m cE:Nat) (aE:Option Addr) (js:List Int),m<=51/\js.length=m/\u=.slice aE m cE/\Hid (Iw w P n cap a bs (niN bs (ni bs i) k) js u W)) (λu _=>51-slN u)
    case atStart=>exact⟨_,cE,aE,js,by omega,rfl,rfl,HI.out⟩
    case round=>
     obtain⟨m,cE,aE,ks,hm,hl,rfl,hI⟩:=hrel
     have HI:Hid _:=hI.out
     have HW:Hid (∀o,Iw w P n cap a bs (niN bs (ni bs i) k) ks (.slice aE m cE) (wr.alloc o)):=λo=>hI.out.keep0 (ez 0 0 _ o)
     clear hI
     have HL:Hid _:=hl
     have hk6:ks.length<=51:=xaa
     clear hl
     by_cases h5:(m:Int)<50+(k:Int)%2
     ·go_wp2_with (at_builtin;refine fk _ rfl _ _ rfl w.heap.size _ ks rfl (HW.out _).own ⟨wr.heap.size,0,none⟩ ((k:Int)%5) rfl xac xaa (HW.out _).kp.size ?_;intro g9 c9 n9 w9 hn9 ho9 hk9 _;have HI9:Hid _:=(HW.out _).app hn9 ho9 hk9;replace hn9:Hid _:=hn9;clear ho9 hk9)
      have e9:n9=m+1:=by rw[hn9.out,yak,HL.out];rfl
      go_roundw
      case rel=>exact⟨_,_,_,_,_,_,_,_,_,_,_,_,⟨n9,c9,_,ks++[(k:Int)%5],by omega,hn9.out.symm,rfl,HI9.out⟩,rfl⟩
      case measure=>show 51-n9<51-m;omega
     ·go_wp2
      go_ret
      exact⟨_,rfl,HI.out.rd,HI.out.kp⟩
   ·go_wp2
    go_ret
    exact⟨_,rfl,HI.out.rd,HI.out.kp⟩
