import Derived.Test.YtkjahdegnkmejaaGreatP24
import Derived.Test.YtkjahdegnkmejaaGreatP12
namespace Go.Proofs.Z
variable{Zp:Prop}
open Tryz Go.RowKit Flt
set_option maxRecDepth 1000000
set_option maxHeartbeats 0
section
attribute[local go_sem] eE eC eB
variable{w:World}{xs act:List Bool}{I P i a2 n cap A c1 c2 aa c3:Nat}{R U a1 K a3:Option Addr}{bs ins outs:List Int}{vs:List Vl}
theorem r.qad(h:Zp:=by
 obtain⟨g,ce,aX,bB,bx,bf⟩:=gQ h.dg.r2 rfl u;cases aX;exact qdp):Zp:=h
theorem r.qdq(h:Zp:=by
 have C:(nv bs i:Int)%16=10:=i4 b.o
 clear b;obtain⟨_,aU,ax,aF,_,_,_⟩:=aG.o.bx;go_wp2_with fail;refine yaj (aG.o.pick hn _) ?_;rintro e cd ⟨rfl,z,bS⟩;replace HK:V _:=HK.o.trans bS;replace aG:V _:=z;clear z bS aU ax aF aJ;obtain⟨_,aU,ax,aF,_,_,_⟩:=aG.o.bx;go_wp2_with fail;refine yaj (aG.o.pick hn _) ?_;rintro e bP ⟨rfl,v,a5⟩;replace HK:V _:=HK.o.trans a5;replace aG:V _:=v;clear v a5 aU ax aF;exact xbu):Zp:=h
open r in
theorem F0{a Y}(f:DG w I (.slice a1 Y c1) (.slice K vs.length c2) (.slice a3 aa c3) ins vs outs)(X:RdF w P a n cap i bs)(hP:P<I)(hn:vs.length<=100000)(aj:0<vs.length){m}(aD:(vd vs (nv bs (ni bs i)%vs.length)).len=m)(J:nv bs i%16=10):
  Calls prog 62 #[eX a1 Y c1 K vs.length c2 a3 aa c3,ge P] w (GwO w I P a n cap (ni bs (ni bs (ni bs (ni bs i)))) bs (.slice a1 Y c1) (.slice K vs.length c2) (.slice a3 aa c3) ins vs outs ⟨8,m,((nv bs (ni bs i)%vs.length:Nat):Int),i9 vs m (nv bs (ni bs (ni bs i))),i9 vs m (nv bs (ni bs (ni bs (ni bs i)))),0⟩):=by
 exact qac
theorem s.qad(h:Zp:=by
 obtain⟨g,ce,aX,bB,bx,bf⟩:=gQ h.dg.r2 rfl u;cases aX;exact qdp):Zp:=h
theorem s.qdq(h:Zp:=by
 have C:(nv bs i:Int)%16=12:=i4 b.o
 clear b;exact xbf):Zp:=h
open s in
theorem CW{a Y}(f:DG w I (.slice a1 Y c1) (.slice K vs.length c2) (.slice a3 aa c3) ins vs outs)(X:RdF w P a n cap i bs)(hP:P<I)(hn:vs.length<=100000)(aj:0<vs.length){m:Nat}(aD:(vd vs (nv bs (ni bs i)%vs.length)).len=(m:Int))(ae:0<m)(cH:m<=1000)(J:nv bs i%16=12):
  Calls prog 62 #[eX a1 Y c1 K vs.length c2 a3 aa c3,ge P] w (GwO w I P a n cap (ni bs (ni bs (ni bs i))) bs (.slice a1 Y c1) (.slice K vs.length c2) (.slice a3 aa c3) ins vs outs ⟨11,1,((nv bs (ni bs i)%vs.length:Nat):Int),0,((nv bs (ni bs (ni bs i))%m:Nat):Int),0⟩):=by
 have ai:(nv bs (ni bs (ni bs i)):Int)%(m:Int)=((nv bs (ni bs (ni bs i))%m:Nat):Int):=by rw[Int.natCast_emod]
 have y:nv bs (ni bs (ni bs i))%m<m:=Nat.mod_lt _ ae;have af:=fD X.ys (ni bs (ni bs i));generalize nv bs (ni bs (ni bs i))%m=c at ai y⊢;have bi:V ((nv bs (ni bs (ni bs i)):Int).tmod (m:Int)=c):=(Int.tmod_eq_emod_of_nonneg xaa).trans ai;clear ai;exact qac
def tE(act:List Bool)(v:Vl)(k:Nat):Bool:=(List.range k).any λq=>act.getD (fld v q).toNat false
theorem CX(act v k):tE act v (k+1)=(tE act v k||act.getD (fld v k).toNat false):=by
 simp_all[tE,List.range_succ]
theorem se{j b}(h:j≠i):(xs.set i b).getD j false=xs.getD j false:=by
 grind
theorem yT(vs0 x):∀m i,x+m<i->(jg vs0 x m).getD i false=false
 |0,i,h=>by
  rw[jg,se xaa,yai,List.getElem?_replicate]
  split<;>rfl
 |m+1,i,h=>by rw[jg,se xaa,yT vs0 x m i xaa]
theorem CY(h:xs.getD i false=false):xs.set i false=xs:=by
 by_cases hi:i<xs.length
 ·exact xid
 exact List.set_eq_of_length_le xaa
structure AcS(w W:World)(P g2 n A:Nat)(b1 b3:Option Addr)(n1 c1 c2 n3 c3:Nat)(vs:List Vl)(act:List Bool):Prop where
 g:G0 W P (.slice b1 n1 c1) (.slice (some ⟨g2,0,none⟩) n c2) (.slice b3 n3 c3)
 v:VA W g2 n vs
 a:BR W A act
 k:Kept 0 0 w W
 n1:P≠A
 n2:g2≠A
 l:w.heap.size<=A
theorem AcS.keep{W F Y}(h:AcS w W P a2 n A R U Y c1 c2 aa c3 vs act)(k:Kept 0 0 W F):AcS w F P a2 n A R U Y c1 c2 aa c3 vs act:=
 ⟨h.g.keep k,VA.keep h.v k yaa,BR.keep h.a k yaa,h.k.trans k,h.n1,h.n2,h.l⟩
theorem AcS.set{W Y}(h:AcS w W P a2 n A R U Y c1 c2 aa c3 vs act)(i b):AcS w (W.setCell ⟨A,i,none⟩ (.bool b)) P a2 n A R U Y c1 c2 aa c3 vs (act.set i b):=
 have k:=fh (S:=λq=>q=A) W A i (.bool b) rfl
 ⟨h.g.keepC k h.n1,h.v.keepC k h.n2,BR.set h.a i b,h.k.new (eU (lo:=A) (hi:=A+1) W ⟨A,i,none⟩ (.bool b) yac) h.l,h.n1,h.n2,h.l⟩
theorem yU(w R U a2 Y c1 n c2 aa c3 s x vs)(ai:VA w a2 n vs)(ag:n<=2000)(aw:s<n)(aH:x<n)(co:∀j,j<n->0<=(vs.getD j i0).op/\(vs.getD j i0).op<=13)(S:∀j,j<n->∀k,k<cnt (vs.getD j i0).op->0<=fld (vs.getD j i0) k/\fld (vs.getD j i0) k<j):
  Calls prog 127 #[eX R Y c1 (some ⟨a2,0,none⟩) n c2 U aa c3,ih s,ih x] w λe O=>∃A,e=.returned (ia A n n)/\BR O A (jg vs x (s-x))/\w.heap.size<=A/\Kept 0 0 w O:=by
 have aY:=ai.lt;have bb:V _:=ai.len;have aD:=MA n (w.alloc (fB R Y c1 (some ⟨a2,0,none⟩) n c2 U aa c3)) xaa;have ap:=eA 0 0 w (fB R Y c1 (some ⟨a2,0,none⟩) n c2 U aa c3);have aC:=eA 0 0 (w.alloc (fB R Y c1 (some ⟨a2,0,none⟩) n c2 U aa c3)) (.cells (madeCells #[.bool false] n) 4);have bl:=BR.made (w.alloc (fB R Y c1 (some ⟨a2,0,none⟩) n c2 U aa c3)) n;rw[show(w.alloc _).heap.size=w.heap.size+1 by simp]at bl aD
 have Z:V (AcS w _ _ _ n _ _ _ _ _ _ _ _ _ _):=
  ⟨(ib w _ _ _).keep aC,VA.keep ai (ap.trans aC) yaa,bl,ap.trans aC,by omega,by omega,by omega⟩
 have bR:V (AcS w (((w.alloc (fB R Y c1 (some ⟨a2,0,none⟩) n c2 U aa c3)).alloc (.cells (madeCells #[.bool false] n) 4)).setCell ⟨w.heap.size+1,x,none⟩ (.bool true)) w.heap.size a2 n (w.heap.size+1) R U Y c1 c2 aa c3 vs (jg vs x 0)):=by
  have:=Z.o.set x true;unfold jg;rw[bb.o];exact this
 have aJ:=Z.o.g.q1;have b:=BR.cell Z.o.a x (by grind);have g:=BR.free Z.o.a x;generalize (List.replicate n _).getD x _=G at b;have ca:(0:Int)<=x:=xaa;have bZ:(x:Int)<n:=xaa;have N:IntKind.i64.wrap (x+1)=x+1:=by rw[IntKind.wrap_i64];omega
 have db:V _:=co;have er:V _:=S;clear ai ap aC bl Z co S;generalize (w.alloc _).alloc _=ak at aD bR aJ b g;go_enter func127,ntmps127;go_wp2_with fail;clear aD aJ b g;generalize ak.setCell _ _=bz at bR⊢;generalize y:w.heap.size+1=A at bR⊢;clear y;go_loopw [8] (λv W=>∃(i m:Nat),v=ih i/\i=x+1+m/\m<=s-x/\V (AcS w W w.heap.size a2 n A R U Y c1 c2 aa c3 vs (jg vs x m))) (λv _=>s+1-(intOf v).toNat)
 case atStart=>grind
 case round=>
  obtain⟨i,m,rfl,f,r,bL⟩:=hrel;clear bR;by_cases gx:i<=s
  ·have ey:(0:Int)<=i:=xaa;have eg:(i:Int)<n:=xaa;have B:(i:Int)<=s:=xaa;have ah:i<n:=xaa;obtain⟨v,aL⟩:∃v,v=vs.getD i i0:=⟨_,rfl⟩
   have b2:V _:=aL;have cx:V _:=yy v.op (by rw[aL];exact(db.o i ah).1) (by rw[aL];exact(db.o i ah).2);have dd:=er.o i ah;rw[<-aL]at dd;have e6:V _:=dd
   have az:V (AcS w wr w.heap.size a2 n A R U Y c1 c2 aa c3 vs ((jg vs x m).set i (tE (jg vs x m) v 0))):=by
    have e:(jg _ x m).set i (tE (jg vs x m) v 0)=jg _ x m:=CY (yT vs x m i xaa);show AcS _ _ _ _ _ _ _ _ _ _ _ _ _ _ _;rw[e];exact bL.o
   have h:V (i=x+1+m/\m<=s-x):=⟨f,r⟩
   have ef:V ((jg vs x m).length=n):=by show _=_;rw[oe,bb.o]
   have cM:V (jg vs x (m+1)=(jg vs x m).set i (tE (jg vs x m) v (cnt v.op))):=by
    show _=_;rw[jg,<-f,<-aL];rfl
   generalize jg _ x m=act at az ef cM;have hp:IntKind.i64.wrap (i+1)=i+1:=by rw[IntKind.wrap_i64];omega
   clear bL f r aL dd;go_wp2_with fail;go_loopw [9] (λu W=>∃k:Nat,k<=cnt v.op/\u=ih k/\V (AcS w W w.heap.size a2 n A R U Y c1 c2 aa c3 vs (act.set i (tE act v k)))) (λu _=>cnt v.op-(intOf u).toNat)
   case atStart=>exact⟨0,yae,rfl,az⟩
   case round=>
    obtain⟨k,J,rfl,a5⟩:=hrel;clear az;have aJ:=a5.o.g.q1;have bf:=a5.o.v.at_ i ah;rw[<-b2.o]at bf;obtain⟨bX,aV,bg,bq,bB,cF⟩:=bf;by_cases aY:k<cnt v.op
    ·obtain⟨o,aR,gy⟩:∃o:Nat,fld v k=o/\o<i:=by
      have:=e6.o k aY;exact⟨(fld v k).toNat,by omega,by omega⟩
     have aZ:=io v.op;have bI:V (∀W,Calls _ _ _ W λe O=>e=.returned (.int _ o)/\Kept 0 0 W _):=λW=>by rw[<-aR];exact mW W v k xaa
     have b:=BR.cell a5.o.a o (by rw[List.length_set,ef.o];omega);rw[se xaa]at b
     have z:V (tE act v (k+1)=(tE act v k||act.getD o false)):=by
      show _=_;rw[CX,aR];rfl
     have H:V _:=cM.o;have bO:k<(cnt v.op:Int):=xaa;have cy:(0:Int)<=o:=xaa;have ck:(o:Int)<n:=xaa;have fj:IntKind.i64.wrap (k+1)=k+1:=by rw[IntKind.wrap_i64];omega
     have q:V (∀W,Kept 0 0 _ W->W.cell? _=some _):=λW l=>by
      rw[l.cell (p:=⟨A,o,none⟩) a5.o.a.lt xaa];exact b
     clear aR b;go_wp2_with (first|(go_at_call 38;refine yaj (cx.o _) ?_;rintro e ch ⟨rfl,rfl⟩)|fail);refine yaj (bI.o _) ?_;rintro e ci ⟨rfl,b7⟩;have b:=q.o _ b7;have t:V _:=a5.o.keep b7;have F:=BR.cell t.o.a i (by rw[List.length_set,ef.o];omega);have g:=BR.free t.o.a i;generalize (act.set i _).getD i _=G at F;clear aJ bX aV bg bq bB cF b7 q bI a5;cases hb:act.getD o false
     ·rw[hb]at b
      have HR:V (AcS w ci w.heap.size a2 n A R U Y c1 c2 aa c3 vs (act.set i (tE act v (k+1)))):=by
       show AcS _ _ _ _ _ _ _ _ _ _ _ _ _ _ _;rw[z.o,hb,Bool.or_false];exact t.o
      exact xhk
     rw[hb]at b
     have HR:V (AcS w (ci.setCell ⟨A,i,none⟩ (.bool true)) w.heap.size a2 n A R U Y c1 c2 aa c3 vs (act.set i (tE act v (k+1)))):=by
      have:=t.o.set i true;rw[List.set_set]at this;show AcS _ _ _ _ _ _ _ _ _ _ _ _ _ _ _;rw[z.o,hb,Bool.or_true];exact this
     exact xhk
    have bO:¬(k<(cnt v.op:Int)):=xaa;have d5:k=cnt v.op:=xaa
    have HR:V (AcS w wr w.heap.size a2 n A R U Y c1 c2 aa c3 vs (jg vs x (m+1))):=by
     show AcS _ _ _ _ _ _ _ _ _ _ _ _ _ _ _;rw[cM.o,<-d5];exact a5.o
    clear a5 d5;go_wp2_with (first|(go_at_call 38;refine yaj (cx.o _) ?_;rintro e ch ⟨rfl,rfl⟩)|fail);clear aJ bX aV bg bq bB cF;go_roundw;exact⟨i+1,m+1,by go_num,i4 h.o,i4 h.o,HR⟩;simp[intOf];omega
  have C:m=s-x:=xaa;have B:¬((i:Int)<=s):=xaa;have d:V _:=bL.o;clear bL f;go_wp2_with fail;go_ret;rw[<-C];exact⟨A,rfl,d.o.a,d.o.l,d.o.k⟩
end
section
variable{w aK F:World}{C ins outs an:List Int}{n ay Y A ad aa ah base cap cap' I:Nat}{st:List Vl×List Int}{act:List Bool}{R U K a2':Option Addr}{vs vs2:List Vl}{H R':Option Nat}
structure LK(w W:World)(b1:Option Addr)(n1 e1:Nat)(b3:Option Addr)(n3 e3:Nat)(ins outs:List Int)(vs:List Vl)(base:Nat)(R:Option Nat)(a2:Option Addr)(cap:Nat):Prop where
 g:SG W w.heap.size b1 n1 e1 b3 n3 e3 vs base R a2 cap
 b:RB W (w.heap.size+1) (.slice none 0 0) (.slice none 0 0) (.slice none 0 0)
 i:W.ownsRow base 3 1 (.slice b1 n1 e1) n1 (ins.map (Value.int .i64))
 o:W.ownsRow base 3 1 (.slice b3 n3 e3) n3 (outs.map (Value.int .i64))
 k:Kept 0 0 w W
 hb:w.heap.size+1+1<=base
 a1:Apart (.slice b1 n1 e1) (.slice a2 vs.length cap)
 a3:Apart (.slice b3 n3 e3) (.slice a2 vs.length cap)
 a4:Apart (.slice b1 n1 e1) (.slice b3 n3 e3)
theorem LK.keep{W}(h:LK w W R Y ad U aa ah ins outs vs base H K cap)(k:Kept 0 0 W F):LK w F R Y ad U aa ah ins outs vs base H K cap:=
 {h with g:=h.g.keep k,b:=h.b.keep k,i:=eN h.i k,o:=eN h.o k,k:=h.k.trans k}
structure Farb(w:World)(b1:Option Addr)(n1 e1:Nat)(b3:Option Addr)(n3 e3:Nat)(R:Option Nat)(B:Nat):Prop where
 p:w.heap.size+1+1<=B
 r:R≠some B
 i:(Value.slice b1 n1 e1).ownBlock≠some B
 o:(Value.slice b3 n3 e3).ownBlock≠some B
theorem LK.far{W}(h:LK w W R Y ad U aa ah ins outs vs base H K cap)(aZ:W.heap.size<=I):Farb w R Y ad U aa ah H I where
 p:=i4 h.b.sz
 r:=λc=>by have:=(eF h.g.own (h.g.row.trans c)).2;omega
 i:=λc=>i4 ((eF h.i c).2)
 o:=λc=>i4 ((eF h.o c).2)
theorem cN.qct(h:Zp:=by
 exact {
  g:=⟨by simpa using h.g.lt,λo=>by simp[h.g.free o],by rw[c _ _ xaa];exact h.g.c0,by rw[c _ _ xaa];exact h.g.c1,by rw[c _ _ xaa];exact h.g.c2,eH h.g.own (jn h.g.row t.r),h.g.row,h.g.ne,by simpa using h.g.sz⟩
  b:=⟨by simpa using aL,by rw[c _ _ xaa];exact bm,by rw[c _ _ xaa];exact aW,by rw[c _ _ xaa];exact bd,by simp[bC],by simp[bH],by simp[bJ]⟩
  i:=eH h.i t.i
  o:=eH h.o t.o
  k:=sO w W h.k I j _ xaa
  hb:=h.hb,a1:=h.a1,a3:=h.a3,a4:=h.a4}):Zp:=h
open cN in
theorem LK.other{W}(h:LK w W R Y ad U aa ah ins outs vs base H K cap)(t:Farb w R Y ad U aa ah H I)(j u):LK w (W.setCell ⟨I,j,none⟩ u) R Y ad U aa ah ins outs vs base H K cap:=by
 exact qcs
theorem aM.qbe(h:Zp:=by
 exact⟨{
  g:=ax
  b:=h.b.stq aF xaa f
  i:=r7 h.i aF ct ca
  o:=r7 h.o aF ck cy
  k:=Chg.kept h.k aF.chg (by
   rintro i (c|c)
   ·omega
   ·have:=(eF h.g.own (h.g.row.trans c)).1;have:=h.hb;omega)
  hb:=h.hb
  a1:=ew
  a3:=Z
  a4:=h.a4},aF⟩):Zp:=h
open aM in
theorem LK.step{W ak aM l h'}(h:LK w W R Y ad U aa ah ins outs vs base H K cap)(k:Kept 0 0 W aK)
  (own:ak.ownsRow base 79 6 (.slice a2' vs2.length cap') vs2.length (fU vs2)) (j:(Value.slice a2' vs2.length cap').ownBlock=R') (s:StQ (λ_=>False) H aK R' ak) (aC:Kept l h' ak aM) (ag:W.heap.size<=l) (X:∀g,R'=some g->g<l\/h'<=g):
  LK w (fk aM w.heap.size (.slice R Y ad) (.slice a2' vs2.length cap') (.slice U aa ah)) R Y ad U aa ah ins outs vs2 base R' a2' cap'/\StQ (λi=>i=w.heap.size) H W R' (fk aM w.heap.size (.slice R Y ad) (.slice a2' vs2.length cap') (.slice U aa ah)):=by
 obtain⟨ax,aF⟩:=h.g.put2 k own j s aC ag X;exact qbd
theorem LK.read{W}(h:LK w W R Y ad U aa ah ins outs vs base H K cap)(hn:0<vs.length):
  ∃g,K=some ⟨g,0,none⟩/\H=some g/\g<W.heap.size/\∀j,j<vs.length->At W g (j*6) (vs.getD j i0):=by
 exact xgy
theorem LK.fin{W}(h:LK w W R Y ad U aa ah ins outs vs base H K cap)(k:Kept 0 0 W F):
  ((fk F (w.heap.size+1) (.slice R Y ad) (.slice K vs.length cap) (.slice U aa ah)).ownsRow w.heap.size 3 1 (.slice R Y ad) Y (ins.map (Value.int .i64))/\(fk F (w.heap.size+1) (.slice R Y ad) (.slice K vs.length cap) (.slice U aa ah)).ownsRow w.heap.size 79 6 (.slice K vs.length cap) vs.length (fU vs)/\(fk F (w.heap.size+1) (.slice R Y ad) (.slice K vs.length cap) (.slice U aa ah)).ownsRow w.heap.size 3 1 (.slice U aa ah) aa (outs.map (Value.int .i64)))/\Kept 0 0 w (fk F (w.heap.size+1) (.slice R Y ad) (.slice K vs.length cap) (.slice U aa ah)):=by
 exact xcx
theorem LK.call{w W aq Y ad aa ah base cap R U K ins outs vs H}(h:LK w W R Y ad U aa ah ins outs vs base H K cap)(k:Kept 0 0 W aq)(u)(hn:vs.length<=1000000):
  Calls prog 59 #[eX R Y ad K vs.length cap U aa ah,u.agg] aq λe ak=>∃aI cap',e=.returned (eX R Y ad (some ⟨aI,0,none⟩) (vs.length+1) cap' U aa ah)/\
   (∃u,ak.cell? ⟨w.heap.size,0,none⟩=some u)/\(∃u,ak.cell? ⟨w.heap.size,1,none⟩=some u)/\(∃u,ak.cell? ⟨w.heap.size,2,none⟩=some u)/\(∀o,ak.frozen? ⟨w.heap.size,o,none⟩=false)/\
   V (LK w (fk ak w.heap.size (.slice R Y ad) (ia aI (vs.length+1) cap') (.slice U aa ah)) R Y ad U aa ah ins outs (vs++[u]) base (some aI) (some ⟨aI,0,none⟩) cap'/\StQ (λi=>i=w.heap.size) H W (some aI) (fk ak w.heap.size (.slice R Y ad) (ia aI (vs.length+1) cap') (.slice U aa ah))):=by
 exact xbl
structure LG(w W:World)(Mb A:Nat)(b1:Option Addr)(n1 e1:Nat)(b3:Option Addr)(n3 e3:Nat)(ins outs:List Int)(vs:List Vl)(mv:List Int)(act:List Bool)(base:Nat)(R:Option Nat)(a2:Option Addr)(cap:Nat):Prop where
 l:LK w W b1 n1 e1 b3 n3 e3 ins outs vs base R a2 cap
 m:IR W Mb mv
 a:BR W A act
 fm:Farb w b1 n1 e1 b3 n3 e3 R Mb
 fa:Farb w b1 n1 e1 b3 n3 e3 R A
 ne:Mb≠A
theorem LG.keep{W}(h:LG w W ay A R Y ad U aa ah ins outs vs an act base H K cap)(k:Kept 0 0 W F):LG w F ay A R Y ad U aa ah ins outs vs an act base H K cap:=
 ⟨h.l.keep k,h.m.keep k yaa,h.a.keep k yaa,h.fm,h.fa,h.ne⟩
theorem LG.set{W}(h:LG w W ay A R Y ad U aa ah ins outs vs an act base H K cap)(j r):LG w (W.setCell ⟨ay,j,none⟩ (ih r)) ay A R Y ad U aa ah ins outs vs (an.set j r) act base H K cap:=
 ⟨h.l.other h.fm j _,h.m.set j r,h.a.keepC (fh (S:=λq=>q=ay) W ay j (ih r) rfl) (λe=>h.ne e.symm),h.fm,h.fa,h.ne⟩
theorem LG.stq{W}(h:LG w W ay A R Y ad U aa ah ins outs vs an act base H K cap)(l:LK w F R Y ad U aa ah ins outs vs2 base R' a2' cap')(q:StQ (λi=>i=w.heap.size) H W R' F):LG w F ay A R Y ad U aa ah ins outs vs2 an act base R' a2' cap':=by
 have d:∀{I},I<W.heap.size->Farb w R Y ad _ _ _ H I->Farb w _ _ _ U aa ah R' I:=λaZ t=>⟨t.p,by
  rcases q.row with e|⟨r,e,au⟩
  ·rw[e];exact t.r
  grind,t.i,t.o⟩
 refine⟨l,h.m.stq q (i4 h.fm.p) h.fm.r,h.a.keepC q.chg ?_,d h.m.lt h.fm,d h.a.lt h.fa,h.ne⟩;rintro (c|c)
 ·have:=h.fa.p;omega
 exact h.fa.r c
def gdn(vs:List Vl)(act:List Bool)(s:Nat):Nat->List Vl×List Int
 |0=>wC vs s
 |j+1=>giM vs act (s-j) (gdn vs act s j)
theorem tF(vs act s x):∀k,k<=s-x->yK vs act x (wC vs s) ((List.range k).map (λi=>(s-x)-1-i))=gdn vs act s k
 |0,_=>rfl
 |k+1,h=>by
  rw[List.range_succ,List.map_append,List.map_cons,List.map_nil,AH,tF _ _ s x k xaa,gdn]
  grind
def xl(n:Nat)(act:List Bool)(sl:List Int):Prop:=∀q,q<n->sl.getD q 0=-1\/(0<=sl.getD q 0/\act.getD q false=true)
theorem Nr{p}[Decidable p]{a b:List Vl×Int}(aB:0<=a.2)(hb:0<=b.2):0<=(if p then a else b).2:=by grind
theorem Ns(i v y k d aZ)(aN:0<=d):0<=(mX i v y k d aZ).2:=by
 unfold mX;repeat' (apply Nr)
 all_goals omega
theorem yV{o p}(h:xl n act C)(ag:C.length=n)(aA:0<=p)(aB:act.getD o false=true):xl n act (C.set o p):=λq am=>by
 rw[yai,List.getElem?_set]
 by_cases e:o=q
 ·simp_all
 ·rw[ip e,<-yai]
  exact h q am
theorem JT{i k}(h:xl n act st.2)(ag:st.2.length=n)(aN:0<=st.2.getD i 0):xl n act (gkM vs act i k st).2:=by
 grind[gkM,mn,yV,Ns]
theorem CZ{o i p}(h:o≠i):(mn vs o p st).2.getD i 0=st.2.getD i 0:=by
 unfold mn;grind
theorem JU{i k}(h:(fld (vs.getD i i0) k).toNat≠i):(gkM vs act i k st).2.getD i 0=st.2.getD i 0:=by
 grind[gkM,CZ]
theorem tG{vs act i st}:∀k,(∀q,q<k->(fld (vs.getD i i0) q).toNat≠i)->(jM vs act i st k).2.getD i 0=st.2.getD i 0
 |0,_=>rfl
 |k+1,h=>by rw[jM,JU (h k yaf),tG k (λq am=>h q xaa)]
theorem tH{vs act n i st}(h:xl n act st.2)(ag:st.2.length=n)(aN:0<=st.2.getD i 0):∀k,(∀q,q<k->(fld (vs.getD i i0) q).toNat≠i)->xl n act (jM vs act i st k).2
 |0,_=>h
 |k+1,br=>JT (tH h ag aN k (λq am=>br q xaa)) (by rw[qg];exact ag) (by grind[tG])
theorem JV{i}(h:xl n act st.2)(ag:st.2.length=n)(hi:i<n)(br:∀q,q<cnt (vs.getD i i0).op->(fld (vs.getD i i0) q).toNat≠i):xl n act (giM vs act i st).2:=by
 unfold giM;split
 ·exact h
 rename_i ai;exact tH h ag (by rcases h i hi with c|c<;>grind) _ br
structure GdI(vs:List Vl)(act:List Bool)(n:Nat)(L:Nat)(C:Int)(st:List Vl×List Int):Prop where
 i:xl n act st.2
 l:st.2.length=n
 p:Pre vs st.1
 z:SzU L C st.1
theorem BG{vs act n s}(hn:vs.length=n)(aw:s<n)(b5:SzU 2000 50000 vs)(bI:LnB vs)(aB:act.getD s false=true)(br:∀i,i<n->∀q,q<cnt (vs.getD i i0).op->(fld (vs.getD i i0) q).toNat≠i):∀j,j<=s->GdI vs act n (2001+12*j) (51000+12000*(j:Int)) (gdn vs act s j)
 |0,_=>by
  refine⟨?_,by simp[gdn,wC,hn],⟨_,rfl⟩,?_⟩
  ·refine yV (λq am=>.inl ?_) (by grind) xaa aB
   simp_all
  ·exact(SzU.app (L':=1) (C':=1000) b5 ⟨by simp,by simp[eY],by simp[eY]⟩).mono xaa xaa
 |j+1,h=>by
  have Z:=BG hn aw b5 bI aB br j xaa
  exact⟨JV Z.i Z.l xaa (br _ xaa),by rw[gdn,Jg];exact Z.l,Jf Z.p,(MK bI Z.z).mono xaa xaa⟩
theorem mJ{s q}(h:q<=s):(C.take (s+1)).getD q 0=C.getD q 0:=by
 grind
theorem qS(C:List Int)(s o p):(C.take (s+1)).set o p=(C.set o p).take (s+1):=List.take_set.symm
theorem C2(vs s)(aw:s<vs.length):(List.replicate (s+1) (-1:Int)).set s (vs.length:Nat)=(wC vs s).2.take (s+1):=by
 unfold wC;simp only;rw[<-qS,List.take_replicate,show min (s+1) vs.length=s+1 by omega]
theorem cB.qci(h:Zp:=by
 have d:RB (fk aK w.heap.size (.slice R Y aX) (.slice K ae bk) (.slice U aa ab)) (w.heap.size+1) (.slice none 0 0) (.slice none 0 0) (.slice none 0 0):=by
  obtain⟨aL,bm,aW,bd,bC,bH,bJ⟩:=X.keep k;exact xdr
 have bg:=aS.size;subst hn
 exact {
  g:=⟨b9,λo=>by
    unfold fk
    simp[k.frozen (p:=⟨w.heap.size,o,none⟩) bR.sz xaa,br o],a8,aJ,aP,p2,rfl,λc=>by grind,yao cN bg⟩
  b:=d
  i:=bn
  o:=bb
  k:=Kept.new (cU.trans k) aS yad
  hb:=eq
  a1:=λI B N=>ax I N B
  a3:=λI B N=>aF I N B
  a4:=bv}):Zp:=h
theorem cB.qep(h:Zp:=by
 have G:∀{e size n:Nat}{v:Value}{xs:List _},aK.ownsRow base e _ v n xs->(fk aK _ _ _ _).ownsRow _ e size v n _/\(∀I,v.ownBlock=some I->w.heap.size+1+1<=I/\I<aK.heap.size):=λh=>
  ⟨fJ h aS (λb hb=>i4 ((eF h hb).1)),λI aZ=>i4 (eF h aZ)⟩
 exact qch):Zp:=h
open cB in
theorem LK.start{ae aX bk ab g u0 u1 u2}(hn:vs.length=ae)
  (bR:G0 ((w.alloc g).alloc fO) w.heap.size u0 u1 u2) (br:∀o,((w.alloc g).alloc fO).frozen? ⟨w.heap.size,o,none⟩=false) (X:RB ((w.alloc g).alloc fO) (w.heap.size+1) (.slice none 0 0) (.slice none 0 0) (.slice none 0 0)) (k:Kept 0 0 ((w.alloc g).alloc fO) aK) (eq:w.heap.size+1+1<=base) (cN:base<=aK.heap.size)
  (cy:aK.ownsRow base 3 1 (.slice R Y aX) Y (ins.map (Value.int .i64))) (ck:aK.ownsRow base 79 6 (.slice K ae bk) ae (fU vs)) (Z:aK.ownsRow base 3 1 (.slice U aa ab) aa (outs.map (Value.int .i64)))
  (ax:Apart (.slice K ae bk) (.slice R Y aX)) (aF:Apart (.slice K ae bk) (.slice U aa ab)) (bv:Apart (.slice R Y aX) (.slice U aa ab)):
  LK w (fk aK w.heap.size (.slice R Y aX) (.slice K ae bk) (.slice U aa ab)) R Y aX U aa ab ins outs vs base (Value.slice K ae bk).ownBlock K bk:=by
 exact qeo
def uW(w w':World)(n1 n3:Nat)(ins outs:List Int)(M:List Vl×Int)(e:Ending):Prop:=
 ∃b1 d1 b3 d3 a2 cap,e=.returned (.tuple #[eX b1 n1 d1 a2 M.1.length cap b3 n3 d3,.int .i64 M.2])/\w'.ownsRow w.heap.size 3 1 (.slice b1 n1 d1) n1 (ins.map (Value.int .i64))/\w'.ownsRow w.heap.size 79 6 (.slice a2 M.1.length cap) M.1.length (fU M.1)/\w'.ownsRow w.heap.size 3 1 (.slice b3 n3 d3) n3 (outs.map (Value.int .i64))/\Apart (.slice b1 n1 d1) (.slice b3 n3 d3)
end
section
attribute[local go_sem] eE eC eB
theorem t.qaf(h:Zp:=by
 exact qdv):Zp:=h
theorem t.qdw(h:Zp:=by
 rw[gr.o]at bD;have ai:vs.length<=1000000:=i4 bb.o
 by_cases gA:s<x
 all_goals
  (first|(have br:(s:Int)<x:=by omega)|(have br:¬((s:Int)<x):=by omega))
  go_upto_region 5 with fail
  clear bG bn p2 bT f1 f2 an
  generalize ((ak.setCell _ _).setCell _ _).setCell _ _=ds at HL c9⊢
  rw[<-bb.o]at HL⊢
  have a0:=HL.o.g.c0
  have av:=HL.o.g.c1
  have aT:=HL.o.g.c2
  go_cut [] (λcq=>∃aI cap',V (LK w cq R Y aX U aa ab ins outs (vs++[eK 1 dg 0 0 0]) aK.heap.size (some aI) (some ⟨aI,0,none⟩) cap'))
  case first=>
   go_region_with (first
    |(go_at_call 59;refine yaj (LK.call HL.o ((eD _).trans ap) _ ai) ?_;rintro e ak ⟨aI,cap',rfl,⟨_,bo⟩,⟨_,ar⟩,⟨_,aQ⟩,aj,b0⟩;have bR:=aj 0;have bV:=aj 1;have bW:=aj 2;have cu:V _:=b0.o.1;clear aj b0)
    |(go_at_call 83;refine yaj (oJ _ _) ?_;rintro e aK ⟨rfl,ap⟩;have bG:=(LK.keep HL.o ((eD _).trans ap)).g.c0;have bn:=(LK.keep HL.o ((eD _).trans ap)).g.c1;have p2:=(LK.keep HL.o ((eD _).trans ap)).g.c2))
   all_goals (go_wp2_with fail;go_meet;exact⟨_,_,cu⟩)
  case rest=>
   obtain⟨aI,cap',b0⟩:=hcut
   have cp:(vs++[eK 1 dg 0 0 0]).length=vs.length+1:=by simp
   generalize G:vs++[eK 1 _ 0 0 0]=C at b0 bD cp
   clear a0 av aT G HL
   have a0:=b0.o.g.c0
   have av:=b0.o.g.c1
   have aT:=b0.o.g.c2
   obtain⟨_,bm,aW,bd,bC,bH,bJ⟩:=b0.o.b
   have be:V _:=λW=>iV W R (some ⟨aI,0,none⟩) U Y aX _ cap' aa ab (show C.length<=1000000 by have:=bb.o;have:=cp;omega)
   rw[show(C.length:Int)-1=(vs.length:Nat) by omega]at be
   clear cp
   go_wp2_with fail
   go_region_with (first
    |(go_at_call 66;refine yaj (be.o _) ?_;rintro e aM ⟨rfl,a9⟩;clear bm aW bd bC bH bJ;have aU:=(b0.o.keep ((eD _).trans a9)).g.c0;have ax:=(b0.o.keep ((eD _).trans a9)).g.c1;have aF:=(b0.o.keep ((eD _).trans a9)).g.c2;obtain⟨_,bm,aW,bd,bC,bH,bJ⟩:=(b0.o.keep ((eD _).trans a9)).b))
   all_goals
    have ea:V _:=b0.o.a4
    have R1:V _:=b0.o.fin ((eD _).trans a9)
    obtain⟨a8,aJ,aP⟩:=fd _ _ _ _ _ bm aW bd (.slice R Y aX) (ia aI C.length cap') (.slice U aa ab)
    go_wp2_with fail
    refine yaz (v:=.tuple #[eX R Y aX (some ⟨aI,0,none⟩) C.length cap' U aa ab,ih vs.length]) (by simp[results,results124,go_sem,a8,aJ,aP]) rfl ⟨?_,R1.o.2⟩
    rw[bD.o]
    exact⟨_,_,_,_,_,_,rfl,R1.o.1.1,R1.o.1.2.1,R1.o.1.2.2,ea.o⟩):Zp:=h
open t in
theorem xn(w F P a2 Y c1 ae c2 aa c3 s x ins vs outs)(f:GS w F Y (some ⟨a2,0,none⟩) ae P aa ins vs outs)(dc:VA w a2 ae vs)(cj:Y<=1000000)(cw:ae<=2000)(cK:aa<=1000000)(af:(List.range ae).all (okV ins vs)=true)(c7:eY vs<=50000)(aw:s<ae)(aH:x<ae)(aB:(jg vs x (s-x)).getD s false=false):
  Calls prog 124 #[eX F Y c1 (some ⟨a2,0,none⟩) ae c2 P aa c3,ih s,ih x] w λe O=>uW w O Y aa ins outs (grM vs s x) e/\Kept 0 0 w O:=by
 have bD:V (grM vs s x=(vs++[eK 1 (vs.getD x i0).len 0 0 0],(vs.length:Int))):=by
  show _=_;unfold grM;rw[ip (by rw[aB];simp)]
 exact qdm
