import Derived.Test.YtiacbhjphaldlaaGreatDoorP46
namespace Go.Proofs.Z
open Tryz
set_option maxRecDepth 1000000
set_option maxHeartbeats 0
open Go.RowKit Flt
attribute[local go_sem] dI dG dF gh gj gn mkF
variable{x y:List UInt8}
theorem opS{g a b}(h:(g=102/\x=[43]/\y=[45]/\a=2/\b=3)\/(g=118/\x=[42]/\y=[47]/\a=4/\b=5))(s w):Calls prog g #[dJ s] w λe D=>e=.returned (h0 (if s=x then a else if s=y then b else -1))/\D=w:=by
 cases c:(s==x)
 ·have c1:=ne_of_beq_false c;cases c2:(s==y)
  ·rw[h2 c1,h2 (ne_of_beq_false c2)];exact xci
  rw[h2 c1,h3 (eq_of_beq c2)];exact xci
 rw[h3 (eq_of_beq c)];exact xci
theorem Ph{E w T}(f:Ps E w T)(ar:x∈mh)(aY:y∈mh):(∃k us,T=k::us/\M (k.sym=x\/k.sym=y)/\M ((cvT k).text=k.sym)/\M (PkC E w (cvT k).kind k.sym (cvT k).at_))\/(¬(hdS T=x\/hdS T=y)/\∃a b c,¬(b=x\/b=y)/\M (PkC E w a b c)):=by
 have aa:∀x∈T,TkC x:=by obtain⟨i,h⟩:=f;exact h.cl
 by_cases c:hdS T=x\/hdS T=y
 ·obtain c|c:=c
  ·obtain⟨k,us,rfl,H⟩:=lR c (jR _ ar).2.2.2.2;exact .inl ⟨k,us,rfl,.inl H,((kU (n:=0) aa ar).2 c).trans H.symm,lU f rfl (it H ar)⟩
  obtain⟨k,us,rfl,H⟩:=lR c (jR _ aY).2.2.2.2;exact .inl ⟨k,us,rfl,.inr H,((kU (n:=0) aa aY).2 c).trans H.symm,lU f rfl (it H aY)⟩
 exact .inr ⟨c,_,_,_,λh=>c (h.imp (kU aa ar).1 (kU aa aY).1),ow f⟩
structure ChA(A B x y:List UInt8)(oM:List UInt8->Int)(l:Nat):Prop where
 hx:x∈mh
 hy:y∈mh
 op:∀s,s=x\/s=y->oM s=lw s/\oM s≠-1
 no:∀s,¬(s=x\/s=y)->oM s=-1
 ry:∀s,s=x\/s=y->fg B s=[s,A,B]
 rn:∀s,¬(s=x\/s=y)->fg B s=[]
 pb:gC B=true
 up:∀{e:Ex}{us:List Tok},Pr l [e] us->Pr (l+1) [e] us
 add:∀{a b:Ex}{us vs:List Tok}{k:Tok},Pr (l+1) [a] us->(k.sym=x\/k.sym=y)->Pr l [b] vs->Pr (l+1) [.bin k a b] (us++k::vs)
theorem FV{E n cF g aH B R l}(ax:ChA aH B x y R l)(bi:(cF=101/\g=102)\/(cF=117/\g=118))(ar:∀s W,Calls prog g #[dJ s] W λe D=>e=.returned (h0 (R s))/\D=W)(bH:XC E cF [aH] l n){w ts}(f:Ps E w ts)(bD:ts.length<n):Calls prog 100 #[ge E.P,.func (.func cF) #[ge E.P] #[],.func (.func g) #[] #[]] w (Ot E w ts [aH,B] (GNd w (l+1))):=by
 have O:=Q bH;have bk:M (Otp E w ts [aH,B] [] ts [aH,B] w):=.start f;have bf:M (ts.length<n/\E.P<w.heap.size):=⟨bD,f.nw.1⟩
 have q:M (∀s t,s=x\/s=y->t=s->∀W,Calls prog g #[dJ t] W λe D=>e=.returned (h0 (lw s))/\D=W):=λs t h e W=>by rw[e,<-(ax.op s h).1];exact ar s W
 have ae:M (∀s,¬(s=x\/s=y)->∀W,Calls prog g #[dJ s] W λe D=>e=.returned (h0 (-1))/\D=W):=λs h W=>by rw[<-ax.no s h];exact ar s W
 clear bH f bD ar;obtain⟨rfl,rfl⟩|⟨rfl,rfl⟩:=bi
 all_goals
  go_enter func100,ntmps100
  go_wp2_with ((first|go_at_call 101|go_at_call 117);refine Otp.call (rest:=[B]) (O.o w ts bk.o.ps bf.o.1) bk.o ib (λ_ _ h=>h1 rfl h) ?_;rintro us T v aa C c1 ⟨K,J,A⟩)
  go_loopg [7] T.length (λm v W=>∃(e:Ex) (us T:List Tok),T.length=m/\M (Pr (l+1) [e] us)/\M (Nd W (Fr w.heap.size) v e)/\M (Otp E w ts [aH,B] us T [B] W))
  case atStart=>exact⟨K,us,T,rfl,ax.up J,A,C⟩
  case round=>
   clear C c1 J A
   obtain⟨a6,P,U,aR,aX,b,af⟩:=hrel
   obtain⟨u,bQ,aD⟩:=b.o.iface
   subst aD
   obtain⟨k,cM,rfl,H,aJ,a⟩|⟨c,aN,o,aP,e9,a⟩:=Ph af.o.ps ax.hx ax.hy
   ·have V:M _:=q.o k.sym _ H.o rfl
    have S:M _:=q.o k.sym _ H.o aJ.o
    have av:lw k.sym≠-1:=by rw[<-(ax.op _ H.o).1];exact(ax.op _ H.o).2
    have i:M (Otp E w ts [aH,B] P (k::cM) [k.sym,aH,B] wr):=af.o.rule (R:=[k.sym,aH,B]) (ax.ry _ H.o) ax.pb
    have ab:M (k.sym≠[]/\gC k.sym=false):=by
     obtain h|h:=H.o<;>rw[h]
     ·exact⟨(jR _ ax.hx).1,nE _ ax.hx⟩
     ·exact⟨(jR _ ax.hy).1,nE _ ax.hy⟩
    have X:M (cM.length<n):=by have:=bf.o.1;rw[i.o.sp]at this;simp at this;show _<_;omega
    have b0:M ((cvT k).at_=k.pos):=ut k
    have j:=Q bf.o.2
    have bp:cM.length<gk:=by simp at aR;omega
    clear aR
    generalize fM:lw k.sym=a5 at*
    have ah:=Q fM
    clear fM
    go_upto_block 1 with (first|(go_at_call 48;refine yai a.o ?_;rintro e Z ⟨rfl,ad⟩)|((first|go_at_call 102|go_at_call 118);refine yai (V.o _) ?_;rintro e ao ⟨rfl,L⟩;obtain rfl:=L.symm))
    go_cut [7] from 11 to 31 (λv W=>∃am Y bU,M (Pr l [bU] am)/\M (Nd W (Fr w.heap.size) v (.bin k a6 bU))/\M (Otp E w ts [aH,B] (P++[k]++am) Y [B] W))
    case first=>
     go_upto_region 4 with (go_at_call 79;refine i.o.taken rfl ad ?_ ab.o;rintro ao (r:M _) c3;unfold tkV)
     have cA:M _:=(ad.chg.andThen c3).andThen (dE 0 0 ao (tkO k)).chg
     have Bx:M _:=TBx.new r.o.ps k
     replace r:M _:=r.o.keep (dE 0 0 ao (tkO k))
     obtain⟨bq,ak,az,bF,_⟩:=Bx.o
     clear c3 ad a
     generalize ao.alloc (tkO k)=a7 at*
     go_region_with (first|((first|go_at_call 101|go_at_call 117);refine Otp.call (rest:=[B]) (O.o _ cM (r.o.ps.keep (dH _)) X.o) r.o (dH _) (λ_ _ h=>h1 rfl h) ?_;rintro am Y aC aA F c5 ⟨bU,ap,G⟩;obtain⟨bT,bg,a8,bE,_⟩:=Bx.o.ch ((dH _).chg.andThen c5);obtain⟨i1,I,rfl⟩:=G.iface)|((first|go_at_call 102|go_at_call 118);refine yai (S.o _) ?_;rintro e b7 ⟨rfl,p⟩;obtain rfl:=p.symm))
     all_goals
      have aL:=dE 0 0 aA (.cells #[.iface u bQ,.iface i1 I] 134)
      have z:Ch E wr aA:=cA.o.andThen ((dH _).chg.andThen c5)
      have bc:M _:=Nd.bin (o:=k) (wo aA w.heap.size [.iface u bQ,.iface i1 I] F.ch.size xac) ((b.o.ch z j.o).keep aL) ((G.keep aL).fr r.o.ch.size)
      rw[<-b0.o,ah.o]at bc
      have aF:M _:=F.keep aL
      have aG:=Q ap
      clear G c5 F aL ap z
      go_wp2_with fail
      go_meet
      exact⟨am,Y,bU,aG,bc,aF⟩
    case rest=>
     obtain⟨am,Y,bU,ap,G,ag⟩:=hcut
     go_wp2
     go_roundg Y.length
     case measure=>have h:=congrArg List.length (i.o.sp.symm.trans ag.o.sp);simp at h;omega
     case rel=>exact⟨.bin k a6 bU,_,Y,rfl,by show Pr _ _ _;rw[List.append_assoc];exact ax.add aX.o H.o ap.o,G,ag⟩
   ·have V:M _:=ae.o o e9
    have i:M (Otp E w ts [aH,B] P U [] wr):=af.o.rule (R:=[]) (ax.rn _ c) ax.pb
    clear c
    go_wp2_with (first|(go_at_call 48;refine yai a.o ?_;rintro e Z ⟨rfl,ad⟩)|((first|go_at_call 102|go_at_call 118);refine yai (V.o _) ?_;rintro e ao ⟨rfl,L⟩;obtain rfl:=L.symm))
    go_ret
    exact(i.o.keep ad).ret ⟨a6,aX.o,b.o.keep ad⟩ rfl
theorem A9{a b}(ar:lw x=a/\a≠-1)(aY:lw y=b/\b≠-1)(s):(s=x\/s=y->(if s=x then a else if s=y then b else -1)=lw s/\(if s=x then a else if s=y then b else -1)≠-1)/\(¬(s=x\/s=y)->(if s=x then a else if s=y then b else -1)=-1):=by
 constructor
 ·intro h;by_cases c:s=x
  ·rw[h3 c,c];exact⟨ar.1.symm,ar.2⟩
  have c2:=h.resolve_left c;rw[h2 c,h3 c2,c2];exact⟨aY.1.symm,aY.2⟩
 intro h;rw[h2 (λc=>h (.inl c)),h2 (λc=>h (.inr c))]
theorem Pi:ChA ja fd [43] [45] (λs=>if s=[43]then 2 else if s=[45]then 3 else -1) 1:=⟨by decide,by decide,λs=>(A9 xab xab s).1,λs=>(A9 xab xab s).2,λs h=>by obtain rfl|rfl:=h<;>rfl,λs h=>h2 h,by decide,.up12,.add⟩
theorem Pj:ChA fo eW [42] [47] (λs=>if s=[42]then 4 else if s=[47]then 5 else -1) 0:=⟨by decide,by decide,λs=>(A9 xab xab s).1,λs=>(A9 xab xab s).2,λs h=>by obtain rfl|rfl:=h<;>rfl,λs h=>h2 h,by decide,.up01,.mul⟩
