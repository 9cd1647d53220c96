import Derived.Test.YtiacbhjphaldlaaGreatDoorP27
namespace Go.Proofs.Z
open Tryz Go.RowKit Flt
set_option maxRecDepth 1000000
set_option maxHeartbeats 0
section
variable{G:List Int}
abbrev dJ(l:List UInt8):Value:=.string ⟨l.toArray⟩
theorem mb(l:List UInt8):(⟨l.toArray⟩:ByteArray).size=l.length:=by simp[ByteArray.size]
theorem sh(c w):Calls prog 42 #[.int .u8 c] w λe D=>e=.returned (.bool (dig c))/\D=w:=by
 by_cases z:48<=c
 ·have e:dig c=decide (c<=57):=by unfold dig;rw[decide_eq_true z];rfl
  exact xhk
 have e:dig c=false:=by unfold dig;rw[yaw z];rfl
 have t:=yaw z;exact xhk
structure RunE(xs:List Int)(k e:Nat):Prop where
 le:k<=e
 len:e<=xs.length
 digit:∀i,k<=i->i<e->dig (xs.getD i 0)=true
 stop:e<xs.length->dig (xs.getD e 0)=false
def NumE(xs:List Int)(e:Nat):Prop:=∃e1,RunE xs 0 e1/\
 ((e1+1<xs.length/\xs.getD e1 0=46/\dig (xs.getD (e1+1) 0)=true/\RunE xs (e1+1) e)\/(¬(e1+1<xs.length/\xs.getD e1 0=46/\dig (xs.getD (e1+1) 0)=true)/\e=e1))
theorem NumE.good(h:NumE G G.length)(aC:0<G.length)(aT:dig (G.getD 0 0)=true):my G:=by
 obtain⟨K,r,⟨c1,c2,c3,bp⟩|⟨_,rfl⟩⟩:=h
 ·have aB:0<K:=by
   obtain q|q:=Nat.eq_zero_or_pos K
   ·subst q;have:=r.stop aC;rw[aT]at this;cases this
   exact q
  refine⟨K,aC,λi hi=>?_,λi hi V=>?_,.inr ⟨by omega,by omega⟩⟩
  ·obtain q|q|q:=Nat.lt_trichotomy i K
   ·refine⟨λc=>?_,λc=>by omega⟩;have:=r.digit i yad q;rw[c]at this;cases this
   ·subst q;exact⟨λ_=>rfl,λ_=>c2⟩
   refine⟨λc=>?_,λc=>by omega⟩;have:=bp.digit i xaa hi;rw[c]at this;cases this
  obtain q|q|q:=Nat.lt_trichotomy i K
  ·exact r.digit i yad q
  ·subst q;exact absurd c2 V
  exact bp.digit i xaa hi
 refine⟨_,aC,λi hi=>⟨λc=>?_,λc=>by omega⟩,λi hi _=>r.digit i yad hi,.inl rfl⟩;have:=r.digit i yad hi;rw[c]at this;cases this
theorem NumE.not{e}(h:NumE G e)(cd:e≠G.length):¬my G:=by
 rintro⟨p,g⟩;obtain⟨K,r,J⟩:=h
 have key:K<G.length->K=p:=λaV=>by
  have ai:=r.stop aV
  by_cases c:G.getD K 0=46
  ·exact(g.point _ aV).1 c
  ·have:=g.digit _ aV c
   rw[ai]at this;cases this
 obtain⟨c1,c2,c3,bp⟩|⟨c,rfl⟩:=J
 ·have aB:=key xaa;have aV:e<G.length:=by have:=bp.len;omega
  have ai:=bp.stop aV;have i1:=bp.le;have V:G.getD e 0≠46:=λq=>ih ((g.point e aV).1 q)
  have:=g.digit e aV V;rw[ai]at this;cases this
 have aV:e<G.length:=ih r.len
 have aB:=key aV;apply c;have u:=(g.point e aV).2 aB;obtain q|q:=g.place
 ·omega
 refine⟨by omega,u,g.digit _ xaa λc=>?_⟩;have:=(g.point _ xaa).1 c;omega
theorem BU(h:0<G.length)(aT:dig (G.getD 0 0)=false):¬my G:=by
 rintro⟨p,g⟩;by_cases c:G.getD 0 0=46
 ·have:=(g.point 0 h).1 c;obtain q|q:=g.place<;>omega
 have:=g.digit 0 h c;rw[aT]at this;cases this
theorem AA(w g){aO}(n cap bx){G}(ar:G.length=n)(V:n<=1048576)(L:bx<=n)(aj:∀k,k<n->w.cell? ⟨g,aO+k,none⟩=some (.int .u8 (G.getD k 0))):
  Calls prog 40 #[.slice (some ⟨g,aO,none⟩) n cap,h0 bx,.func (.func 42) #[] #[]] w λe D=>∃m:Nat,e=.returned (h0 m)/\RunE G bx m/\D=w:=by
 have aE:=Q aj;have be:=Q ar;clear aj ar;go_enter func40,ntmps40;go_wp2_with fail;go_loop [1] (λv=>∃k:Nat,k<=n/\v=h0 k/\M (bx<=k/\∀i,bx<=i->i<k->dig (G.getD i 0)=true)) (λv=>n-(intOf v).toNat)
 case atStart=>exact⟨_,L,rfl,yac,λi z J=>by omega⟩
 case round=>
  obtain⟨k,H,rfl,bo⟩:=hrel;by_cases aV:k<n
  ·have c:=aE.o k aV;have aJ:M _:=sh (G.getD k 0) w;cases t:dig (G.getD k 0)
   ·have R:M (RunE _ _ k):=⟨bo.o.1,it be.o H,bo.o.2,λ_=>t⟩
    rw[t]at aJ;generalize G.getD k 0=x at c aJ;clear t;go_wp2_with fail;refine yai aJ.o ?_;rintro e D ⟨rfl,rfl⟩;go_wp2;go_ret;exact⟨k,rfl,R.o,rfl⟩
   have R:M (bx<=k+1/\∀i,bx<=i->i<k+1->dig _=true):=⟨ih bo.o.1,λi z J=>by
    obtain q|q:=Nat.lt_or_ge i k
    ·exact bo.o.2 i z q
    ·obtain rfl:i=k:=xaa
     exact t⟩
   rw[t]at aJ;generalize G.getD k 0=x at c aJ;clear t;exact xca
  obtain rfl:k=n:=xaa;have R:M (RunE _ _ k):=⟨bo.o.1,by rw[be.o];exact yac,bo.o.2,λh=>by rw[be.o]at h;omega⟩
  go_wp2;go_ret;exact⟨k,rfl,R.o,rfl⟩
theorem zr(w g){aO}(n cap){G}(ar:G.length=n)(V:n<=1048576)(aj:∀k,k<n->w.cell? ⟨g,aO+k,none⟩=some (.int .u8 (G.getD k 0))):
  Calls prog 43 #[.slice (some ⟨g,aO,none⟩) n cap,h0 0] w λe D=>∃m:Nat,e=.returned (h0 m)/\NumE G m/\m<=n/\D=w:=by
 have aE:=Q aj;have be:=Q ar;have bB:M _:=AA w g n cap 0 ar V yad aj;have aF:M _:=λbx h=>AA w g n cap bx ar V h aj;rw[show((0:Nat):Int)=0 from rfl]at bB;clear aj ar;go_enter func43,ntmps43;go_wp2_with fail;refine yai bB.o ?_;rintro e D ⟨m,rfl,(a:M _),rfl⟩;have au:m<=n:=by have:=a.o.len;rw[be.o]at this;exact this
 clear bB;by_cases c1:m+1<n
 ·have cc:=aE.o m xaa;have aW:=aE.o _ c1;have ba:(m:Int)+1<n:=xaa;by_cases c2:G.getD m 0=46
  ·rw[c2]at cc;have aJ:M _:=sh (G.getD (m+1) 0) D;cases t:dig (G.getD (m+1) 0)
   ·have R:M (NumE _ m):=⟨m,a.o,.inr ⟨λc=>(by rw[t]at c;cases c.2.2),rfl⟩⟩
    rw[t]at aJ;generalize G.getD _ 0=x at aW aJ;clear t c2;go_wp2_with fail;refine yai aJ.o ?_;rintro e Z ⟨rfl,rfl⟩;go_wp2;go_ret;exact⟨m,rfl,R.o,au,rfl⟩
   have R:M (∀e,RunE _ _ e->NumE _ e/\e<=n):=λe bl=>⟨⟨m,a.o,.inl ⟨it be.o c1,c2,t,bl⟩⟩,by have:=bl.len;rw[be.o]at this;exact this⟩
   have ak:M _:=aF.o (m+1) xaa;rw[show(m+1:Nat)=(m:Int)+1 by omega]at ak;rw[t]at aJ;generalize G.getD _ 0=x at aW aJ;clear t c2;go_wp2_with fail;refine yai aJ.o ?_;rintro e Z ⟨rfl,rfl⟩;go_wp2_with fail;refine yai ak.o ?_;rintro e Z ⟨bv,rfl,y,rfl⟩;have bP:M _:=R.o _ y;clear y;go_wp2;go_ret;exact⟨_,rfl,bP.o.1,bP.o.2,rfl⟩
  have bu:=yam c2;have R:M (NumE _ m):=⟨m,a.o,.inr ⟨λc=>c2 c.2.1,rfl⟩⟩
  generalize G.getD m 0=x at cc bu;clear c2 aW;go_wp2;go_ret;exact⟨m,rfl,R.o,au,rfl⟩
 have ba:¬((m:Int)+1<n):=xaa;have R:M (NumE _ m):=⟨m,a.o,.inr ⟨λc=>by rw[be.o]at c;exact c1 c.1,rfl⟩⟩
 go_wp2;go_ret;exact⟨m,rfl,R.o,au,rfl⟩
theorem Mk(s c w):
  Calls prog 83 #[.string s,.string ⟨#[c]⟩] w λe D=>e=.returned (h0 (Lib.countByte s.data.toList c))/\D=w:=by
 go_enter func83,ntmps83;go_wp2;rw[run_callFunc_extern func104 (by kernel_rfl) (by kernel_rfl) (by kernel_rfl) (e:=Extern.BytealgCount.count) (by kernel_rfl),Lib.run_countString];exact xhd
theorem OA{x:Int}(h:0<=x/\x<256):(UInt8.ofNat x.toNat==46)=(x==46):=by
 obtain⟨m,rfl⟩:=Int.eq_ofNat_of_zero_le h.1;have aR:m<256:=xaa;rw[Bool.eq_iff_iff];simp only[beq_iff_eq,Int.toNat_natCast];constructor
 ·intro e;have:=congrArg UInt8.toNat e;simp[Nat.mod_eq_of_lt aR]at this;omega
 intro e;have:m=46:=xaa;subst this;rfl
theorem BV:∀(G:List Int),(∀x∈G,0<=x/\x<256)->Lib.countByte (strOfNums G).data.toList 46=((G.countP (· ==46):Nat):Int):=by
 intro G h;rw[strOfNums_data];unfold Lib.countByte;congr 1;induction G with
 |nil=>rfl
 |cons x r O=>
  have z:=OA (h x xac);have J:=O λy aY=>h y (by simp[aY]);rw[List.map_cons,List.count_cons,List.countP_cons,J,z]
theorem si(G w)(h:∀x∈G,0<=x/\x<256)(V:G.length<=1048576):
  Calls prog 51 #[.string (strOfNums G)] w λe D=>e=.returned (h0 ((G.length:Int)-(G.countP (· ==46):Nat)))/\D=w:=by
 have be:M _:=Mk (strOfNums G) 46 w;rw[BV _ h]at be;have ai:=strOfNums_size G;have aj:G.countP (· ==46)<=G.length:=List.countP_le_length;generalize G.countP _=c at be aj⊢;generalize strOfNums _=s at be ai⊢;generalize G.length=n at ai aj V⊢;go_enter func51,ntmps51;go_wp2_with fail;refine yai be.o ?_;rintro e D ⟨rfl,rfl⟩;clear be;go_wp2;go_ret;exact⟨by rw[<-ai];rfl,rfl⟩
end
section
attribute[local go_sem] dI dG dF
theorem zt(c w):Calls prog 44 #[.int .u8 c] w λe D=>e=.returned (.bool (jy c))/\D=w:=by
 unfold jy;by_cases z:97<=c
 ·by_cases J:c<=122
  ·have e:(decide (97<=c)&&decide (c<=122)||c==95)=true:=by rw[decide_eq_true z,decide_eq_true J];rfl
   exact xet
  have e:(decide (97<=c)&&decide (c<=122)||c==95)=(c==95):=by rw[yaw J];simp
  exact xet
 have e:(decide (97<=c)&&decide (c<=122)||c==95)=(c==95):=by rw[yaw z];simp
 exact xet
theorem Mm(c w):Calls prog 45 #[.int .u8 c] w λe D=>e=.returned (.bool (jz c))/\D=w:=by
 have bf:M _:=zt c w;have aJ:M _:=sh c w;unfold jz;cases h:jy c
 ·rw[h]at bf;rw[Bool.false_or];clear h;generalize dig c=d at aJ⊢;go_enter func45,ntmps45
  go_wp2_with (first
   |(go_at_call 44;refine yai bf.o ?_;rintro e Z ⟨rfl,X⟩;obtain rfl:=X.symm)
   |(go_at_call 42;refine yai aJ.o ?_;rintro e Z ⟨rfl,X⟩;obtain rfl:=X.symm))
  go_ret;exact⟨rfl,rfl⟩
 rw[h]at bf;rw[Bool.true_or];clear h;go_enter func45,ntmps45;go_wp2_with (go_at_call 44;refine yai bf.o ?_;rintro e Z ⟨rfl,X⟩;obtain rfl:=X.symm);go_ret;exact⟨rfl,rfl⟩
theorem Mn(c w):Calls prog 39 #[.int .u8 c] w λe D=>e=.returned (.bool (od c))/\D=w:=by
 unfold od;cases z:(c==32)
 ·cases J:(c==9)
  ·cases al:(c==13)
   ·exact xee
   exact xee
  exact xee
 exact xee
theorem Mo(c w):Calls prog 41 #[.int .u8 c] w λe D=>e=.returned (.bool (j9 c))/\D=w:=by
 unfold j9;go_enter func41,ntmps41;go_wp2;go_ret;exact⟨by simp[bne],rfl⟩
theorem KM(w g){aO}(n cap t)(f:TxS w g aO n t)(V:n<=1048576)(bx)(L:bx<=n):
  Calls prog 40 #[.slice (some ⟨g,aO,none⟩) n cap,h0 bx,.func (.func 42) #[] #[]] w λe D=>e=.returned (h0 (eF dig t bx:Nat))/\D=w:=by
 have aE:=Q f.at_;have be:=Q f.len;obtain⟨E,l⟩:∃E,E=eF dig t bx:=⟨_,rfl⟩
 rw[<-l];have bS:=Q l;clear f l;go_enter func40,ntmps40;go_wp2_with fail;go_loop [1] (λv=>∃k:Nat,k<=n/\v=h0 k/\M (eF dig t k=E)) (λv=>n-(intOf v).toNat)
 case atStart=>exact⟨_,L,rfl,(show M _ from bS.o.symm)⟩
 case round=>
  obtain⟨k,H,rfl,bo⟩:=hrel;by_cases aV:k<n
  ·have c:=aE.o k aV;have aJ:M _:=sh (bt t k) w;cases J:dig (bt t k)
   ·exact xcb
   have R:M (eF dig t (k+1)=E):=by show _=_;rw[<-bo.o];exact(nz (it be.o aV) J).symm
   exact xcj
  exact xdf
theorem OB(w g aO n cap t)(f:TxS w g aO n t)(V:n<=1048576)(bx)(L:bx<=n):
  Calls prog 40 #[.slice (some ⟨g,aO,none⟩) n cap,h0 bx,.func (.func 45) #[] #[]] w λe D=>e=.returned (h0 (eF jz t bx:Nat))/\D=w:=by
 have aE:=Q f.at_;have be:=Q f.len;obtain⟨E,l⟩:∃E,E=eF jz t bx:=⟨_,rfl⟩
 rw[<-l];have bS:=Q l;clear f l;go_enter func40,ntmps40;go_wp2_with fail;go_loop [1] (λv=>∃k:Nat,k<=n/\v=h0 k/\M (eF jz t k=E)) (λv=>n-(intOf v).toNat)
 case atStart=>exact⟨_,L,rfl,(show M _ from bS.o.symm)⟩
 case round=>
  obtain⟨k,H,rfl,bo⟩:=hrel;by_cases aV:k<n
  ·have c:=aE.o k aV;have aJ:M _:=Mm (bt t k) w;cases J:jz (bt t k)
   ·exact xcb
   have R:M (eF jz t (k+1)=E):=by show _=_;rw[<-bo.o];exact(nz (it be.o aV) J).symm
   exact xcj
  exact xdf
theorem OC(w g aO n cap t)(f:TxS w g aO n t)(V:n<=1048576)(bx)(L:bx<=n):
  Calls prog 40 #[.slice (some ⟨g,aO,none⟩) n cap,h0 bx,.func (.func 41) #[] #[]] w λe D=>e=.returned (h0 (eF j9 t bx:Nat))/\D=w:=by
 have aE:=Q f.at_;have be:=Q f.len;obtain⟨E,l⟩:∃E,E=eF j9 t bx:=⟨_,rfl⟩
 rw[<-l];have bS:=Q l;clear f l;go_enter func40,ntmps40;go_wp2_with fail;go_loop [1] (λv=>∃k:Nat,k<=n/\v=h0 k/\M (eF j9 t k=E)) (λv=>n-(intOf v).toNat)
 case atStart=>exact⟨_,L,rfl,(show M _ from bS.o.symm)⟩
 case round=>
  obtain⟨k,H,rfl,bo⟩:=hrel;by_cases aV:k<n
  ·have c:=aE.o k aV;have aJ:M _:=Mo (bt t k) w;cases J:j9 (bt t k)
   ·exact xcb
   have R:M (eF j9 t (k+1)=E):=by show _=_;rw[<-bo.o];exact(nz (it be.o aV) J).symm
   exact xcj
  exact xdf
theorem In(w g aO n cap t)(f:TxS w g aO n t)(V:n<=1048576)(i)(hi:i<n):
  Calls prog 43 #[.slice (some ⟨g,aO,none⟩) n cap,h0 i] w λe D=>e=.returned (h0 (jl t i:Nat))/\D=w:=by
 have aF:M _:=KM w g n cap t f V i xaa;have l:=iC dig t i (ix f.len);rw[f.len]at l;have bc:M (jl t i=if eF dig t i+1<n/\bt t (eF dig t i)=46/\dig (bt t (eF dig t i+1))=true then eF dig t (eF dig t i+1)else eF dig t i):=by show _=_;unfold jl;rw[f.len]
 generalize jl t i=Maa at bc⊢;have bk:=Q f;generalize eF _ t i=E at aF l bc;by_cases z:E+1<n
 ·have c1:=f.at_ E xaa;have c2:=f.at_ _ z;have aJ:M _:=sh (bt t (E+1)) w;have bM:M _:=KM w g n cap t f V (E+1) xaa;generalize eF _ t _=b at bM bc;have bl:(E:Int)+1<n:=xaa;clear f;cases J:(bt t E==46)
  ·have R:M _:=bc.o.trans (h2 (λc=>by grind));generalize bt t E=x at c1 J;exact xer
  cases al:dig (bt t (E+1))
  ·have R:M _:=bc.o.trans (h2 (λc=>by grind));rw[al]at aJ;generalize bt t E=x at c1 J;generalize bt t _=y at c2 aJ;clear al;go_enter func43,ntmps43
   go_wp2_with (first
    |(go_at_call 40;refine yai aF.o ?_;rintro e Z ⟨rfl,X⟩;obtain rfl:=X.symm)
    |(go_at_call 42;refine yai aJ.o ?_;rintro e ao ⟨rfl,X⟩;obtain rfl:=X.symm))
   go_ret;rw[R.o];exact⟨rfl,rfl⟩
  have R:M _:=bc.o.trans (h3 ⟨z,eq_of_beq J,al⟩);rw[al]at aJ;generalize bt t E=x at c1 J;generalize bt t _=y at c2 aJ;clear al;go_enter func43,ntmps43;go_upto_region 2 with (go_at_call 40;refine yai aF.o ?_;rintro e Z ⟨rfl,X⟩;obtain rfl:=X.symm);go_upto_region 3 with (go_at_call 42;refine yai aJ.o ?_;rintro e ao ⟨rfl,X⟩;obtain rfl:=X.symm);go_wp2_with (go_at_call 40;refine yai bM.o ?_;rintro e Z ⟨rfl,X⟩;obtain rfl:=X.symm);go_ret;rw[R.o];exact⟨rfl,rfl⟩
 have R:M _:=bc.o.trans (h2 (λc=>z c.1));have bl:¬(E:Int)+1<n:=xaa;clear f;exact xer
theorem AB(s c w):
  Calls prog 95 #[.string s,.int .u8 c] w λe D=>e=.returned (h0 (Lib.indexByte s.data.toList c.toNat.toUInt8))/\D=w:=by
 go_enter func95,ntmps95;go_wp2;rw[run_callFunc_extern func115 (by kernel_rfl) (by kernel_rfl) (by kernel_rfl) (e:=Extern.BytealgIndexByte.indexByte) (by kernel_rfl),Lib.run_indexByteString];exact xhd
theorem Io(s c w):
  Calls prog 72 #[.string s,.int .u8 c] w λe D=>e=.returned (h0 (Lib.indexByte s.data.toList c.toNat.toUInt8))/\D=w:=by
 have bf:M _:=AB s c w;go_enter func72,ntmps72;exact xfs
theorem vC:∀(l:List UInt8) (c:UInt8),decide (0<=Lib.indexByte l c)=decide (c∈l)
 |[],c=>rfl
 |b::l,c=>by
  have O:=vC l c
  grind[Lib.indexByte]
def pi(x:Int):Bool:=decide (x.toNat.toUInt8∈onesL)
theorem D6(c w):Calls prog 46 #[.int .u8 c] w λe D=>e=.returned (.bool (pi c))/\D=w:=by
 have cb:M _:=Io ⟨#[43,45,42,47,40,41,44,59,58,61]⟩ c w;have O:M (pi c=decide (0<=Lib.indexByte (ByteArray.mk #[43,45,42,47,40,41,44,59,58,61]).data.toList _)):=(vC onesL _).symm;generalize Lib.indexByte _ _=q at cb O;generalize pi c=b at O⊢;go_enter func46,ntmps46;go_wp2_with (go_at_call 72;refine yai cb.o ?_;rintro e Z ⟨rfl,X⟩;obtain rfl:=X.symm);go_ret;rw[O.o];exact⟨rfl,rfl⟩
def lu(s:List UInt8):Bool:=decide (s∈keysL)
theorem Mq(s w):Calls prog 73 #[dJ s] w λe D=>e=.returned (.bool (lu s))/\D=w:=by
 by_cases aC:s=[105,110]
 ·rw[show lu s=true by rw[aC];decide];subst aC;exact xbb
 by_cases z:s=[108,101,116]
 ·rw[show lu s=true by rw[z];decide];subst z;exact xbb
 by_cases J:s=[111,117,116]
 ·rw[show lu s=true by rw[J];decide];subst J;exact xbb
 by_cases al:s=[100,101,102]
 ·rw[show lu s=true by rw[al];decide];subst al;exact xbb
 by_cases bw:s=[114,101,112,101,97,116]
 ·rw[show lu s=true by rw[bw];decide];subst bw;exact xbb
 by_cases bL:s=[101,120,112]
 ·rw[show lu s=true by rw[bL];decide];subst bL;exact xbb
 by_cases bf:s=[115,117,109]
 ·rw[show lu s=true by rw[bf];decide];subst bf;exact xbb
 by_cases S:s=[109,97,120]
 ·rw[show lu s=true by rw[S];decide];subst S;exact xbb
 by_cases m:s=[100,111,116]
 ·rw[show lu s=true by rw[m];decide];subst m;exact xbb
 by_cases u:s=[115,101,108]
 ·rw[show lu s=true by rw[u];decide];subst u;exact xbb
 by_cases f:s=[102,105,108,108]
 ·rw[show lu s=true by rw[f];decide];subst f;exact xbb
 by_cases B:s=[112,105,99,107]
 ·rw[show lu s=true by rw[B];decide];subst B;exact xbb
 by_cases C:s=[112,117,116]
 ·rw[show lu s=true by rw[C];decide];subst C;exact xbb
 by_cases A:s=[103,114,97,100]
 ·rw[show lu s=true by rw[A];decide];subst A;exact xbb
 by_cases a:s=[106,118,112]
 ·rw[show lu s=true by rw[a];decide];subst a;exact xbb
 have H:lu s=false:=by simp_all[lu,keysL]
 rw[H];clear H;have bK:=yav aC;have L:=yav z;have bi:=yav J;have U:=yav al;have ae:=yav bw;have aF:=yav bL;have ah:=yav bf;have ba:=yav S;have b8:=yav m;have b7:=yav u;have j:=yav f;have l:=yav B;have b:=yav C;have c:=yav A;have g:=yav a;clear aC z J al bw bL bf S m u f B C A a;exact xbb
end
section
theorem Ip{w}(g){aO}(n cap){G}(ar:G.length=n)(aj:∀k,k<n->w.cell? ⟨g,aO+k,none⟩=some (.int .u8 (G.getD k 0))):
  (convert 22 9 (.slice (some ⟨g,aO,none⟩) n cap)).run prog w=.ok (.string (strOfNums G)) w:=
 run_convert_bytes_arg w 22 5 underlying22 underlying5 g aO n cap G ar aj 9 underlying9
theorem xE(w a){cap}:
  Calls prog 166 #[.slice a 0 cap] w λe D=>e=.returned (.tuple #[.float .f64 0,h0 2])/\Drawn w D:=by
 go_enter func166,ntmps166;go_wp2;go_ret2
 exact⟨rfl,Drawn.refl _⟩
theorem zu(w g){aO}(n){cap G}(ar:G.length=n)(aC:0<n)(V:n<=1048576)(aV:∀x∈G,0<=x/\x<256)(aj:∀k,k<n->w.cell? ⟨g,aO+k,none⟩=some (.int .u8 (G.getD k 0))):
  Calls prog 166 #[.slice (some ⟨g,aO,none⟩) n cap] w λe D=>∃f c,e=.returned (.tuple #[.float .f64 f,h0 c])/\RN G f c/\Drawn w D:=by
 have aE:=Q aj;have be:=Q ar;have bf:=Q aV;have aJ:M _:=sh (G.getD 0 0) w;have bS:M _:=zr w g n cap ar V aj;have cc:=aj 0 aC;rw[Nat.add_zero]at cc;have bJ:((n:Int)==0)=false:=yam xaa;have v:0<G.length:=xaa;clear aj ar aV;go_enter func166,ntmps166;cases t:dig (G.getD 0 0)
 ·have R:M (RN _ 0 2):=.inl ⟨BU v t,rfl,rfl⟩;rw[t]at aJ;generalize G.getD 0 0=x at cc aJ;clear t v;go_wp2_with fail;refine yai aJ.o ?_;rintro e D ⟨rfl,rfl⟩;go_wp2;go_ret2
  exact⟨0,2,rfl,R.o,Drawn.refl _⟩
 have bW:=Q t;rw[t]at aJ;generalize G.getD 0 0=x at cc aJ;clear t;go_wp2_with fail;refine yai aJ.o ?_;rintro e D ⟨rfl,rfl⟩;go_wp2_with fail;refine yai bS.o ?_;rintro e D ⟨m,rfl,bb,aR,rfl⟩;by_cases g1:m=n
 ·obtain⟨p,bL⟩:my _:=NumE.good (by rw[be.o,<-g1];exact bb) v bW.o;subst g1;have br:=Q bL;have fc:((m:Int) !=m)=false:=by simp
  have A:=Ip g m cap be.o aE.o;have b:M _:=si _ D bf.o (it be.o V)
  have i:(G.length:Int)-(G.countP (· ==46):Nat)=(G.countP dig:Nat):=by
   have:=r8 _ bL.digit _ yac;rw[yao yac]at this;omega
  rw[i]at b;have s:=bL.short;have i1:G.countP dig<=m:=by have:=List.countP_le_length (p:=dig) (l:=G);rw[be.o]at this;exact this
  clear bb bL i aJ bS cc;by_cases r:15<G.countP dig
  ·have R:M (RN _ 0 5):=.inr (.inl ⟨⟨p,br.o⟩,r,rfl,rfl⟩);clear s;generalize G.countP _=q at b r i1;have bR:15<(q:Int):=xaa;go_wp2_with fail;refine yai b.o ?_;rintro e Z ⟨rfl,rfl⟩;go_wp2;go_ret2
   exact⟨0,5,rfl,R.o,Drawn.refl _⟩
  have F:m<=16:=by have:=s xaa;rw[be.o]at this;exact this
  have z:M _:=Nat.le_of_not_lt r;clear s;generalize an:G.countP _=q at b r i1;clear an;have bR:¬(15<(q:Int)):=xaa;go_wp2_with fail;refine yai b.o ?_;rintro e Z ⟨rfl,rfl⟩;clear b A;go_wp2_with fail;go_loopw [4,5,6,32] (λbG C e0 bF W=>∃(j:Nat) (N aA:Int) (B:Bool),j<=m/\bG=h0 N/\C=h0 aA/\e0=.bool B/\bF=h0 j/\M (N=(nds (G.take j)).1/\aA=(nds (G.take j)).2.1/\B=(nds (G.take j)).2.2)/\Drawn Z W) (λ_ _ _ bF _=>m-(intOf bF).toNat)
  case atStart=>exact⟨0,0,1,_,yad,rfl,rfl,rfl,rfl,⟨rfl,rfl,rfl⟩,Drawn.refl _⟩
  case round=>
   obtain⟨j,N,aA,B,aK,rfl,rfl,rfl,rfl,a,o⟩:=hrel;obtain⟨L,bi,U,ae⟩:=pT br.o.digit j (it be.o aK) xaa;rw[<-a.o.1]at L bi;rw[<-a.o.2.1]at U ae;by_cases h:j<m
   ·have c1:wr.cell? ⟨g,aO+j,none⟩=some (.int .u8 (G.getD j 0)):=by rw[o.cell];exact aE.o j h
    have l:j<G.length:=it be.o h
    by_cases u:G.getD j 0=46
    ·obtain⟨bg,a8,bE⟩:=ug l u;have R:M (N=(nds _).1/\aA=(nds _).2.1/\true=(nds _).2.2):=⟨a.o.1.trans bg.symm,a.o.2.1.trans a8.symm,bE.symm⟩
     rw[u]at c1;clear a bg a8 bE u;go_wp2;go_roundw
     case rel=>exact⟨j+1,N,aA,true,by omega,rfl,rfl,rfl,by go_num,R,o⟩
     case measure=>simp[intOf];omega
    have aT:=mS (br.o.digit j l u);obtain⟨bg,a8,bE⟩:=uh l u;rw[<-a.o.1]at bg;rw[<-a.o.2.2,<-a.o.2.1]at a8;rw[<-a.o.2.2]at bE;have y:=yam u;cases B
    ·have R:M (N*10+(G.getD j 0-48)=(nds _).1/\aA=(nds _).2.1/\false=(nds _).2.2):=⟨bg.symm,a8.symm,bE.symm⟩
     clear a bg a8 bE u;generalize G.getD j 0=x at c1 aT R y;go_wp2;go_roundw
     case rel=>exact⟨j+1,_,_,_,by omega,by go_num,rfl,rfl,by go_num,R,o⟩
     case measure=>simp[intOf];omega
    have R:M (N*10+(G.getD j 0-48)=(nds _).1/\aA*10=(nds _).2.1/\true=(nds _).2.2):=⟨bg.symm,a8.symm,bE.symm⟩
    clear a bg a8 bE u;generalize G.getD j 0=x at c1 aT R y;go_wp2;go_roundw
    case rel=>exact⟨j+1,_,_,_,by omega,by go_num,by go_num,rfl,by go_num,R,o⟩
    case measure=>simp[intOf];omega
   obtain rfl:j=m:=xaa;have e:=yao (ix be.o);rw[e]at a;have R:M (∀W:World,RN _ (fop _ (floatOfInt _ N) (floatOfInt _ aA) W) 0):=λW=>.inr (.inr ⟨⟨p,br.o⟩,z.o,Dc,by rw[Db,a.o.1,a.o.2.1],rfl⟩);clear a e;go_wp2_with fail;refine yai De ?_;rintro e ao ⟨rfl,rfl⟩;go_wp2;go_ret2
   exact⟨_,0,rfl,R.o _,o.more _⟩
 have R:M (RN _ 0 2):=.inl ⟨bb.not (it be.o g1),rfl,rfl⟩;have fc:((m:Int) !=n)=true:=by grind
 clear bb v bW;go_wp2;go_ret2
 exact⟨0,2,rfl,R.o,Drawn.refl _⟩
theorem Mr{w a n cap G}(f:YS w a n G)(V:n<=1048576):
  Calls prog 166 #[.slice a n cap] w λe D=>∃f c,e=.returned (.tuple #[.float .f64 f,h0 c])/\RN G f c/\Drawn w D:=by
 obtain aC|aC:=Nat.eq_zero_or_pos n
 ·subst aC;have:=List.length_eq_zero_iff.1 f.len;subst this;exact(xE w a).mono λ_ _ h=>⟨0,2,h.1,.inl ⟨λ⟨_,g⟩=>by have:=g.pos;grind,rfl,rfl⟩,h.2⟩
 obtain h|⟨g,aO,rfl,al,bw⟩:=f.at_
 ·omega
 exact zu w g n f.len aC V f.lt bw
