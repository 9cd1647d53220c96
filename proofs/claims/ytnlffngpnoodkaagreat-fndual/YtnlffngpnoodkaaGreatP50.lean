import Derived.Test.YtnlffngpnoodkaaGreatP49
import Derived.Test.YtnlffngpnoodkaaGreatP44
namespace Go.Proofs.YtnlffngpnoodkaaGreat
set_option maxRecDepth 1000000
set_option maxHeartbeats 0
open Go.RowKit Flt
attribute [local go_sem] ic ib ia
variable {ys:List Int} {vs:List Vl}
theorem DG.gn {w:World}{B g1 g2 g3 n1 c1 n2 c2 n3 c3:Nat}{ins:List Int}{outs:List Int}(f:DG w B (.slice (some ⟨g1,0,none⟩) n1 c1) (.slice (some ⟨g2,0,none⟩) n2 c2) (.slice (some ⟨g3,0,none⟩) n3 c3) ins vs outs)(h2:vs.length=n2):GN w g1 g2 g3 n2 ins vs outs:=by
 have key:∀{g n c:Nat} {xs:List Int},w.ownsRow B 3 1 (.slice (some ⟨g,0,none⟩) n c) xs.length (xs.map (Value.int .i64))->IE w g xs:=λ{g n c xs} h=>by
  have hb:=ii h (k:=g) rfl
  refine⟨hb.2,λk hk=>?_⟩
  rcases h.2 with⟨e,_⟩|⟨g',cap,cur,e,_⟩
  ·cases e
  ·cases e
   rcases (sI h rfl).at_ with z|⟨ga,oa,ea,_,_,_,z4⟩
   ·omega
   ·cases ea;have:=z4 k hk;rw[Nat.zero_add] at this;exact this
 subst h2
 refine⟨key f.r1,⟨rfl,(ii f.r2 (k:=g2) rfl).2,λk hk=>?_,λo=>f.r2.frozenAt o⟩,key f.r3⟩
 obtain⟨g,cp,eu,_,_,hat⟩:=iY f.r2 rfl hk
 cases eu
 exact hat
def DuA (w:World)(ys:List Int)(T:List Int×List Vl×List Int×Nat)(S X:Int)(e:Ending)(w':World):Prop:=
 (ty T/\rg T S X/\DuY w ys T S X e w')\/(¬(ty T/\rg T S X)/\DuN w S X e w')
theorem Cf {w:World}{a am:Option Addr}{n cap nm cm:Nat}{xs:List Int}(h:YS w a n xs)(hc:n<=cap)(hy:YS w am nm ys)(hnm:nm<=1048576):
  Calls Tryz.prog 4 #[.slice a n cap,.slice am nm cm] w (DuA w ys (gdT (xs.take 500)) (gdS (xs.take 500)) (gdX (xs.take 500))):=by
 by_cases c1:ty (gdT (xs.take 500))
 ·by_cases c2:rg (gdT (xs.take 500)) (gdS (xs.take 500)) (gdX (xs.take 500))
  ·exact(zE hy hnm h hc c1 c2).mono λe w' q=>.inl ⟨c1,c2,q⟩
  ·exact(zC hy hnm h hc c1 c2).mono λe w' q=>.inr ⟨λc=>c2 c.2,q⟩
 ·exact(zB h hc c1).mono λe w' q=>.inr ⟨λc=>c1 c.1,q⟩
structure TkG (ys:List Int)(T:List Int×List Vl×List Int×Nat)(s x:Nat)(vs:List Vl):Prop where
 sv_:vs.map sv=T.2.1
 dc:DC ys T.1 vs s x
 s5:s<50
 l60:vs.length<=60
 i20:T.1.length<20
theorem zM {T:List Int×List Vl×List Int×Nat}{s x:Nat}(hA:ty T)(hC:rg T (s:Int) (x:Int))(hsv:vs.map sv=T.2.1)(hy:∀p,kr ys p<256):TkG ys T s x vs:=by
 obtain⟨h1,h2,h3,h4,h5⟩:=hA
 obtain⟨k1,k2,k3,k4,k5,k6⟩:=hC
 have hl:vs.length=T.2.1.length:=by rw[<-hsv,List.length_map]
 have hok:okG T.1 vs T.2.2.1=true:=by rw[qK (us:=vs) (vs:=T.2.1) (by rw[<-hsv,qM])];exact h1
 have hce:ig vs=ig T.2.1:=by rw[<-hsv,nW]
 have hlen:∀j,(vs.getD j Vl.zero).len=(T.2.1.getD j Vl.zero).len:=λj=>oj (nw (us:=vs) (vs:=T.2.1) (by rw[<-hsv,qM]) j)
 have hv:=(mn hok).2.2
 refine⟨hsv,⟨BD hok (by omega) (by omega) (by omega) (by omega) (by omega) (by omega),Fx hy (λj hj=>List.all_eq_true.1 hv j (List.mem_range.2 hj)) x,by omega,by omega,?_,hy⟩,by omega,by omega,h4⟩
 rw[hlen]
 exact k4
end Go.Proofs.YtnlffngpnoodkaaGreat
