import Derived.Test.YtiacbhjphaldlaaGreatDoorP07
namespace Go.Proofs.Z
open Tryz Go.RowKit Flt
set_option maxRecDepth 1000000
set_option maxHeartbeats 0
section
variable{ins:List Int}{vs:List Vl}{i:Nat}
theorem Lk{us}{j:Nat}(h:okV ins vs i=true)(r)(be:(us.getD j h7).op=(vs.getD i h7).op)(bD:(us.getD j h7).len=(vs.getD i h7).len)
  (F:cnt (vs.getD i h7).op<1->(us.getD j h7).a=(vs.getD i h7).a) (I:cnt (vs.getD i h7).op<2->(us.getD j h7).b=(vs.getD i h7).b) (aj:cnt (vs.getD i h7).op<3->(us.getD j h7).c=(vs.getD i h7).c)
  (cn:fy (us.getD j h7)=(fy (vs.getD i h7)).map r) (ah:∀o∈fy (vs.getD i h7),0<=o->o<i->(0<=r o/\r o<j)/\(us.getD (r o).toNat h7).len=(vs.getD o.toNat h7).len):okV ins us j=true:=by
 unfold okV at h⊢;generalize us.getD j _=u at*;generalize vs.getD i _=v at*;rw[Bool.and_eq_true,Bool.and_eq_true]at h;obtain⟨⟨z,J⟩,al⟩:=h;have az:jr u=true:=by grind[jr]
 rw[bD,z,az,be];simp only[Bool.true_and];by_cases aC:v.op=0
 ·grind[cnt]
 rw[h2 aC]at al⊢;rw[Bool.and_eq_true]at al⊢
 have key:∀o∈fy v,(0<=r o/\r o<j)/\(us.getD _ _).len=(vs.getD o.toNat _).len:=λo av=>by
  have:=of_decide_eq_true (List.all_eq_true.1 al.1 o av)
  exact ah o av this.1 this.2
 rw[cn];refine⟨?_,?_⟩
 ·rw[List.all_map,List.all_eq_true];intro o av;exact decide_eq_true (key o av).1
 have e:((fy v).map r).map (λo=>(us.getD o.toNat h7).len)=(fy v).map λo=>(vs.getD o.toNat h7).len:=by
  rw[List.map_map];apply List.map_congr_left;intro o av;exact(key o av).2
 grind[cnt,gO]
theorem vd{v}(hi:i<vs.length)(h:okV ins vs i=true):okV ins (vs++[v]) i=true:=by
 have e:∀k,k<vs.length->(vs++[v]).getD k h7=vs.getD k h7:=λk H=>by
  rw[yah,yar H,<-yah]
 refine Lk h id ?_ ?_ ?_ ?_ ?_ ?_ ?_
 ·rw[e i hi]
 ·rw[e i hi]
 ·intro _;rw[e i hi]
 ·intro _;rw[e i hi]
 ·intro _;rw[e i hi]
 ·rw[e i hi];simp
 intro o _ aC z;refine⟨⟨aC,z⟩,?_⟩;rw[e _ (by simp only[id];omega)];rfl
theorem Ds(h:okV ins vs i=true):lenB (vs.getD i h7).len=true:=by
 grind[okV]
end
section
attribute[local go_sem] dI dG dF
def Oj(op:Int):Nat:=if op=0\/op=1 then 0 else if op=2\/op=3\/op=4\/op=5\/op=7 then 2 else if op=8 then 3 else 1
theorem rO{ax}(w)(aC:0<=ax)(z:ax<=13):Calls prog 111 #[h0 ax] w λe D=>e=.returned (h0 (Oj ax:Nat))/\D=w:=by
 have h:ax=0\/ax=1\/ax=2\/ax=3\/ax=4\/ax=5\/ax=6\/ax=7\/ax=8\/ax=9\/ax=10\/ax=11\/ax=12\/ax=13:=xaa;clear aC z;obtain rfl|rfl|rfl|rfl|rfl|rfl|rfl|rfl|rfl|rfl|rfl|rfl|rfl|rfl:=h
 all_goals
  go_enter func111,ntmps111
  go_wp2
  go_ret
  exact⟨rfl,rfl⟩
def fld(v:Vl)(k:Nat):Int:=if k=0 then v.a else if k=1 then v.b else v.c
theorem oU(w v)(k:Nat)(H:k<3):
  Calls prog 112 #[v.agg,h0 k] w λe D=>e=.returned (h0 (fld v k))/\Kept 0 0 w D:=by
 obtain rfl|rfl|rfl:=(by omega:k=0\/k=1\/k=2)
 all_goals
  go_enter func112,ntmps112
  go_wp2
  go_ret
  exact⟨rfl,dE _ _ _ _⟩
theorem GY{w a1 a2 a3 n1}(c1){aI}(c2){aE}(c3){ins vs outs}(f:GS w a1 n1 a2 aI a3 aE ins vs outs)(J:aI<=2000)(ab:∀k,k<aI->1<=(vs.getD k h7).len/\(vs.getD k h7).len<=1000):
  Calls prog 91 #[fj a1 n1 c1 a2 aI c2 a3 aE c3] w λe D=>e=.returned (h0 (dK vs))/\Kept 0 0 w D:=by
 have bd:=dE 0 0 w (eZ a1 n1 c1 a2 aI c2 a3 aE c3);have ax:=gQ w (.slice a1 n1 c1) (.slice a2 aI c2) (.slice a3 aE c3);have bk:M _:=f.keep bd;have bf:=Q f.v.len;have cd:=Q ab;clear f ab bd;go_enter func91,ntmps91;go_wp2_with fail;go_loop [3,4] (λc i=>∃k:Nat,k<=aI/\i=h0 k/\c=h0 (dK (vs.take k))/\M (0<=dK (vs.take k)/\dK (vs.take k)<=1000*k)) (λ_ i=>aI-(intOf i).toNat)
 case atStart=>exact⟨0,yad,rfl,rfl,by constructor<;>simp[dK]⟩
 case round=>
  obtain⟨k,H,rfl,rfl,I⟩:=hrel;by_cases aV:k<aI
  ·obtain bK|⟨s,aK,bD,a9,bj,bI,bR⟩:=bk.o.v.at_
   ·omega
   have c:=(bR k aV).c1;have av:M _:=wU (it bf.o aV);have a:M _:=cd.o k aV;subst bD;clear a9 bj bI bR;generalize vs.getD k _=v at c av a;have ay:-1000000000<=dK (vs.take k)+v.len:=ip I.o a.o
   have cp:dK (vs.take k)+v.len<=1000000000:=ip I.o a.o
   have G:M (0<=dK (vs.take (k+1))/\dK (vs.take (k+1))<=1000*(k+1:Nat)):=by
    have bz:=I.o;have aJ:=a.o;have au:=av.o;constructor<;>omega
   generalize o:dK _=cv at ay cp av;clear I o;go_wp2;go_round
   case rel=>exact⟨k+1,by omega,by go_num,by rw[av.o],G⟩
   case measure=>simp[intOf];omega
  have R:M (dK (vs.take k)=dK vs):=by
   show dK (vs.take k)=dK vs;rw[yao (ix bf.o)]
  clear I;go_wp2;go_ret;exact⟨by rw[<-R.o];rfl,dE _ _ _ _⟩
theorem BC{ax b C G}(h:¬(0<=ax/\ax<=13)):gO ax b C G=false:=by
 grind[gO]
