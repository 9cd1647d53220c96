import Derived.Test.YtamokkcfibdghaaGreatP40
import Derived.Test.YtamokkcfibdghaaGreatP31
import Derived.Test.YtamokkcfibdghaaGreatP32
namespace Go.Proofs.Z
variable {Zp:Prop}
open Tryz
set_option maxRecDepth 1000000
set_option maxHeartbeats 0
section
open Go.RowKit Flt
attribute [local go_sem] eG eE eD
variable {w J:World}{I n c:Nat}{b a:Option Addr}{xs:List Int}
def LsI (w:World)(b:Option Addr)(n c:Nat)(xs:List Int):Prop:=xs.length=n/\((b=none/\n=0/\c=0)\/∃g,b=some ⟨g,0,none⟩/\IE w g xs)
def LsV (w:World)(b:Option Addr)(n c:Nat)(vs:List Vl):Prop:=vs.length=n/\((b=none/\n=0/\c=0)\/∃g,b=some ⟨g,0,none⟩/\VA w g n vs)
theorem LsI.keep(h:LsI w b n c xs)(k:Kept 0 0 w J):LsI J b n c xs:=⟨h.1,h.2.imp id λ⟨g,e,f⟩=>⟨g,e,f.keep k yaa⟩⟩
theorem LsV.keep{vs}(h:LsV w b n c vs)(k:Kept 0 0 w J):LsV J b n c vs:=⟨h.1,h.2.imp id λ⟨g,e,f⟩=>⟨g,e,f.keep k yaa⟩⟩
theorem LsI.is(h:LsI w b n c xs):IS w 0 w.heap.size b n xs:=by
 obtain⟨rfl,⟨rfl,aj,_⟩|⟨g,rfl,f⟩⟩:=h
 ·exact⟨rfl,.inl aj⟩
 exact f.is
theorem LsV.vs{vs}(h:LsV w b n c vs)(O:Kb vs):VS w 0 w.heap.size b n vs:=by
 obtain⟨ah,⟨rfl,aj,_⟩|⟨g,rfl,f⟩⟩:=h
 ·exact⟨ah,O,.inl aj⟩
 exact f.vs O
theorem Ct{W}(h:W.ownsRow I 3 1 (.slice a n c) n (xs.map (Value.int .i64)))(ah:xs.length=n):LsI W a n c xs:=by
 refine⟨ah,?_⟩;rcases h.2 with⟨e,aj⟩|⟨g,cap,H,e,_⟩
 ·cases e;exact .inl ⟨rfl,rfl,rfl⟩
 cases e;have q:=BO h ah;exact .inr ⟨g,rfl,q.lt,λk O=>q.at_ k xaa⟩
theorem L5{W vs}(h:W.ownsRow I 53 6 (.slice a n c) n (fQ vs))(ah:vs.length=n):LsV W a n c vs:=by
 refine⟨ah,?_⟩;rcases h.2 with⟨e,aj⟩|⟨g,cap,H,e,_⟩
 ·cases e;exact .inl ⟨rfl,rfl,rfl⟩
 cases e;exact .inr ⟨g,rfl,(AH h ah).1⟩
theorem Cu(h:LsI w b n c xs)(hn:n<=1000000):Calls prog 69 #[.slice b n c] w λe J=>∃I d,e=.returned (.slice I n d)/\J.ownsRow w.heap.size 3 1 (.slice I n d) n (xs.map (Value.int .i64))/\Kept 0 0 w J:=by
 obtain⟨ah,⟨rfl,rfl,rfl⟩|⟨g,rfl,f⟩⟩:=h
 ·obtain rfl:=List.eq_nil_of_length_eq_zero ah
  have i:(binOp .eql 23 (.slice none 0 0) (.slice none 0 0)).run prog w=.ok (.bool true) w:=by
   simp only[binOp];simp[run_equal_slice_nil w 23 3 none 0 0 underlying23]
  go_enter func69,ntmps69;exact xjk
 exact(Mx w g n c xs hn f ah).mono λe J ⟨G,cap,B,_,_,R,h3⟩=>⟨_,_,B,R,h3⟩
theorem K1{vs}(h:LsV w b n c vs)(hn:n<=1000000):Calls prog 70 #[.slice b n c] w λe J=>∃I d,e=.returned (.slice I n d)/\J.ownsRow w.heap.size 53 6 (.slice I n d) n (fQ vs)/\Kept 0 0 w J:=by
 obtain⟨ah,⟨rfl,rfl,rfl⟩|⟨g,rfl,f⟩⟩:=h
 ·obtain rfl:=List.eq_nil_of_length_eq_zero ah
  have i:(binOp .eql 24 (.slice none 0 0) (.slice none 0 0)).run prog w=.ok (.bool true) w:=by
   simp only[binOp];simp[run_equal_slice_nil w 24 53 none 0 0 underlying24]
  go_enter func70,ntmps70;exact xjk
 exact(My w g n c vs hn f).mono λe J ⟨G,cap,B,_,_,R,h3⟩=>⟨_,_,B,R,h3⟩
theorem Br(w:World)(xs T):IBk (w.alloc (.cells xs T)) w.heap.size 0 []:=⟨rfl,by simp,λk O=>by omega,λo=>World.frozen?_alloc_at _ _ w.heap.size o rfl⟩
theorem Pz(w N aA ab Y c1 U c2 Z c3 ins vs outs)(B:LsI w N Y c1 ins)(R:LsV w aA U c2 vs)(h3:LsI w ab Z c3 outs)(bP:Y<=1000000)(b8:U<=2000)(cx:Z<=1000000):
  Calls prog 43 #[eZ N Y c1 aA U c2 ab Z c3] w λe J=>∃j d1 t d2 r d3,e=.returned (eZ j Y d1 t U d2 r Z d3)/\(J.ownsRow (w.heap.size+2) 3 1 (.slice j Y d1) Y (ins.map (Value.int .i64))/\J.ownsRow (w.heap.size+2) 53 6 (.slice t U d2) U (fQ vs)/\J.ownsRow (w.heap.size+2) 3 1 (.slice r Z d3) Z (outs.map (Value.int .i64)))/\(Apart (.slice j Y d1) (.slice t U d2)/\Apart (.slice j Y d1) (.slice r Z d3)/\Apart (.slice t U d2) (.slice r Z d3))/\(IBk J w.heap.size 0 []/\IBk J (w.heap.size+1) 0 [])/\Kept 0 0 w J:=by
 have H:=ez 0 0 w (eY N Y c1 aA U c2 ab Z c3);have v:=ez 0 0 (w.alloc (eY N Y c1 aA U c2 ab Z c3)) fp;have aI:V _:=(fE w (.slice N Y c1) (.slice aA U c2) (.slice ab Z c3)).keep v;have bp:(w.alloc (eY N Y c1 aA U c2 ab Z c3)).heap.size=w.heap.size+1:=by simp
 have C:=fY (w.alloc (eY N Y c1 aA U c2 ab Z c3));have bq:=Br (w.alloc (eY N Y c1 aA U c2 ab Z c3)) #[.slice none 0 0,.slice none 0 0,.slice none 0 0] 26;rw[bp]at C bq;have HR:V _:=C;have a5:V _:=bq;have h:V _:=(Br w #[.slice N Y c1,.slice aA U c2,.slice ab Z c3] 26).keep v yaa;have HK:V _:=H.trans v;have S:V _:=B.keep (H.trans v);have bY:V _:=R.keep (H.trans v);have p:V _:=h3.keep (H.trans v);have cd:V (((w.alloc (eY N Y c1 aA U c2 ab Z c3)).alloc fp).heap.size=w.heap.size+1+1):=by show _=_;simp
 clear B R h3 H v bp C bq;obtain⟨_,ba,aO,aR⟩:=aI.o;go_enter func43,ntmps43;go_wp2_with fail;generalize (w.alloc (eY N Y c1 aA U c2 ab Z c3)).alloc fp=aB at aI HR HK S bY p cd a5 h ba aO aR⊢;have au:w.heap.size≠w.heap.size+1:=xaa
 go_region_held3 (λJ=>J.cell? ⟨w.heap.size,0,none⟩=some (.slice N Y c1)/\J.cell? ⟨w.heap.size,1,none⟩=some (.slice aA U c2)/\J.cell? ⟨w.heap.size,2,none⟩=some (.slice ab Z c3)) (first|go_keep|(simp only[Fd _ _ _ _ _ _ _ au];exact⟨bn,aC,a0⟩))
  (first
   |(go_at_call 69;refine yai (Cu (LsI.keep p.o q) cx) ?_;rintro e bm ⟨r,d3,rfl,b5,aM⟩;have f:=Kept.trans q aM;obtain⟨_,bn,aC,a0⟩:=G0.keep aI.o f;obtain⟨_,b4,bi,ce,bG,f1,f2⟩:=RB.keep HR.o f)
   |(go_at_call 70;refine yai (K1 (LsV.keep bY.o x) xaa) ?_;rintro e aX ⟨t,d2,rfl,bS,ao⟩;have q:=Kept.trans x ao;obtain⟨_,bj,aQ,a6⟩:=G0.keep aI.o q)
   |(go_at_call 69;refine yai (Cu (LsI.keep S.o (eM 0 0 aB 1)) bP) ?_;rintro e af ⟨j,d1,rfl,b1,an⟩;have x:=Kept.trans (eM 0 0 aB 1) an;obtain⟨_,s0,ax,aN⟩:=G0.keep aI.o x))
 have bO:(aB.drewN 1).heap.size=w.heap.size+1+1:=cd.o;have bU:aB.drew.heap.size=w.heap.size+1+1:=cd.o;have bR:(aB.drewN 1).heap.size<=af.heap.size:=an.size;have z:af.heap.size<=aX.heap.size:=ao.size;have bf:V (Apart (.slice j Y d1) (.slice t U d2)/\Apart (.slice j Y d1) (.slice r Z d3)/\Apart (.slice t U d2) (.slice r Z d3)):=⟨mP b1 bS yad,mP b1 b5 z,mP bS b5 yad⟩
 have H1:V (bm.ownsRow (w.heap.size+2) 3 1 (.slice j Y d1) Y (ins.map (Value.int .i64))):=jd (e8 b1 (ao.trans aM)) xaa;have H2:V (bm.ownsRow (w.heap.size+2) 53 6 (.slice t U d2) U (fQ vs)):=jd (e8 bS aM) xaa;have H3:V (bm.ownsRow (w.heap.size+2) 3 1 (.slice r Z d3) Z (outs.map (Value.int .i64))):=jd b5 xaa;have bX:V _:=HK.o.trans f;have e0:V _:=a5.o.keep f yaa;have d0:V _:=h.o.keep f yaa;clear ba aO aR s0 ax aN bj aQ a6 bn aC a0 b1 bS b5 an ao aM x q f bU bO bR z S bY p aI;go_wp2_with fail;obtain⟨bh,aU,aY⟩:=fj bm (w.heap.size+1) _ _ _ b4 bi ce (.slice j Y d1) (.slice t U d2) (.slice r Z d3);have K:=ft bm (w.heap.size+1) (.slice j Y d1) (.slice t U d2) (.slice r Z d3);have own:∀{u:Value}{xs:List Value}{m e s:Nat},bm.ownsRow (w.heap.size+2) e s u m xs->(fB bm (w.heap.size+1) (.slice j Y d1) (.slice t U d2) (.slice r Z d3)).ownsRow (w.heap.size+2) e s u m xs:=λo=>gM o K λb hb=>hR ((eI o hb).1)
 refine yay (v:=eZ j Y d1 t U d2 r Z d3) (by simp[results,results43,go_sem,bh,aU,aY]) rfl ⟨j,d1,t,d2,r,d3,rfl,⟨own H1.o,own H2.o,own H3.o⟩,bf.o,⟨d0.o.keep K xaa,rfl,yaj e0.o.lt K.size,λk O=>by omega,λo=>?_⟩,bX.o.new K xaa⟩;have:=e0.o.free o;simpa using this
def Sl (b:Option Addr)(n c g:Nat):Prop:=(b=none/\n=0/\c=0)\/b=some ⟨g,0,none⟩
theorem Sl.pos{g}(h:Sl b n c g)(hn:0<n):b=some ⟨g,0,none⟩:=by
 rcases h with⟨_,aj,_⟩|h
 ·omega
 exact h
end
section
open Go.RowKit Flt
attribute [local go_sem] eG eE eD lT
variable {base n s d:Nat}{I:Option Addr}{xs:List Int}
theorem Sl.ni{w b c g}(h:Sl b n c g)(f:IBk w g n xs):LsI w b n c xs:=⟨f.len,h.imp id λe=>⟨g,e,f.lt,λk O=>f.at_ k (hV f.len O)⟩⟩
theorem Ie{W}(h:W.ownsRow base 3 1 (.slice I n d) n (xs.map (Value.int .i64)))(ah:xs.length=n)(g:IBk W s 0 []):∃G,IBk W G n xs/\Sl I n d G/\((G=s/\I=none)\/(base<=G/\I=some ⟨G,0,none⟩)):=by
 rcases h.2 with⟨e,aj⟩|⟨aG,cap,H,e,N,_⟩
 ·cases e;obtain rfl:=List.eq_nil_of_length_eq_zero ah;exact⟨s,g,.inl ⟨rfl,rfl,rfl⟩,.inl ⟨rfl,rfl⟩⟩
 cases e;exact⟨aG,BO h ah,.inr rfl,.inr ⟨N,rfl⟩⟩
theorem K2{W vs}(h:W.ownsRow base 53 6 (.slice I n d) n (fQ vs))(ah:vs.length=n)(g:IBk W s 0 []):∃G,VA W G n vs/\Sl I n d G/\((G=s/\I=none)\/(base<=G/\I=some ⟨G,0,none⟩)):=by
 rcases h.2 with⟨e,aj⟩|⟨aG,cap,H,e,N,_⟩
 ·cases e;obtain rfl:=List.eq_nil_of_length_eq_zero ah;exact⟨s,⟨rfl,g.lt,λk O=>by omega,g.free⟩,.inl ⟨rfl,rfl,rfl⟩,.inl ⟨rfl,rfl⟩⟩
 cases e;exact⟨aG,(AH h ah).1,.inr rfl,.inr ⟨N,rfl⟩⟩
theorem If{a b t A m e}(a7:(a=s/\A=none)\/(base<=a/\A=some ⟨a,0,none⟩))(aS:(b=t/\I=none)\/(base<=b/\I=some ⟨b,0,none⟩))(ad:s≠t/\s<base/\t<base)(bK:Apart (.slice A n d) (.slice I m e)):a≠b:=by
 rcases a7 with⟨B,_⟩|⟨B,rfl⟩<;>rcases aS with⟨R,_⟩|⟨R,rfl⟩
 ·omega
 ·omega
 ·omega
 intro c;exact bK a rfl (hX c)
end
section
open Go.RowKit Flt Go.Maps
attribute [local go_sem] eG eE eD
def POk (w:World)(b1 b3:Option Addr)(g1 n1 c1 g2 g3 n3 c3:Nat)(ins:List Int)(M:List Vl×List Int)(e:Ending)(w':World):Prop:=
 ∃B2 G2 n2 c2 us,e=.returned (eZ b1 n1 c1 B2 n2 c2 b3 n3 c3)/\Sl B2 n2 c2 G2/\PG w' g1 G2 g3 n1 n2 n3 ins us M.2/\Lk us M.1/\Kb us/\Chg (λb=>b=g2\/b=g3) w w'/\(G2=g2\/w.heap.size<=G2)
theorem aK.qba(h:Zp:=by
 exact qgn):Zp:=h
theorem aK.qed(h:Zp:=by
 refine yay (v:=eZ N Y c1 aA U c2 ab Z c3) (by simp[results,results67,go_sem,bh,aU,aY]) rfl ⟨aA,ag,U,c2,(eqM 3 vs outs).1,rfl,H2.o,⟨?_,?_,?_,f.o.d12,f.o.d13,f.o.d23⟩,Lk.refl _,?_,?_,.inl rfl⟩
 ·exact f.o.i.keep K (hR a5.o)
 ·exact f.o.v.keep K (hR a5.o)
 ·exact f.o.o.keep K (hR a5.o)
 ·exact mE cg.o 3 _
 exact xgl):Zp:=h
theorem aK.qgo(h:Zp:=by
 have bx:V _:=Kh ((w.alloc (eY N Y c1 aA U c2 ab Z c3)).alloc fp) N aA ab br Y c1 ag U c2 aD Z c3 3 ins vs outs (λ_=>False) (λ_ _=>True) (hP.keep (H.trans an)) P (λ_ c=>c.elim) trivial (λ_ _ _ _ _=>trivial) (λi W hi _ m=>by
  have E:=lz ins vs 3 i (λj hj=>aL j xaa)
  have bZ:=qq E (aL i xaa)
  rw[rB]at m
  refine(P3 W ag U c2 i _ m hi ?_).mono ?_
  ·rw[qJ E.l1]
   intro c
   have:=(bZ _ (gI (v:=rnm (fh 3 vs i).2 (vs.getD i hM)) (by rw[c];decide))).1
   omega
  ·rw[qJ E.l1,J7 E.l1 (λo av=>(bZ o av).1)]
   exact λe J h=>⟨h.1,h.2.chg,trivial⟩) R.pos h3
 have H2:V _:=R;have cg:V _:=p;clear R h3 hP P aL cl H an C bp p;obtain⟨_,bk,a8,p2⟩:=aI.o;go_enter func67,ntmps67;exact qhs):Zp:=h
theorem aK.qht(h:Zp:=by
 have aJ:V _:=RB.keepC HR.o bw.o (by rintro (c|c|c)<;>first|(have:=a5.o;omega)|exact c);clear bx;exact qec):Zp:=h
open aK in
theorem P9(w N aA ab br Y c1 ag U c2 aD Z c3 ins vs outs)(hP:PG w br ag aD Y U Z ins vs outs)(P:okG ins vs outs=true)(p:Kb vs)(R:Sl aA U c2 ag)(h3:0<Z->ab=some ⟨aD,0,none⟩):
  Calls prog 67 #[eZ N Y c1 aA U c2 ab Z c3] w λe J=>POk w N ab br Y c1 ag aD Z c3 ins (eqM 3 vs outs) e J:=by
 exact qaz
theorem aL.qba(h:Zp:=by
 exact qgn):Zp:=h
theorem aL.qed(h:Zp:=by
 refine yay (v:=eZ N Y c1 aA U c2 ab Z c3) (by simp[results,results68,go_sem,bh,aU,aY]) rfl ⟨aA,ag,U,c2,(eqM 4 vs outs).1,rfl,H2.o,⟨?_,?_,?_,f.o.d12,f.o.d13,f.o.d23⟩,Lk.refl _,?_,?_,.inl rfl⟩
 ·exact f.o.i.keep K (hR a5.o)
 ·exact f.o.v.keep K (hR a5.o)
 ·exact f.o.o.keep K (hR a5.o)
 ·exact mE cg.o 4 _
 exact xgl):Zp:=h
theorem aL.qgo(h:Zp:=by
 have bx:V _:=GI ((w.alloc (eY N Y c1 aA U c2 ab Z c3)).alloc fp) N aA ab br Y c1 ag U c2 aD Z c3 4 ins vs outs (λ_=>False) (λ_ _=>True) (hP.keep (H.trans an)) P (λ_ c=>c.elim) trivial (λ_ _ _ _ _=>trivial) (λi W hi _ m=>by
  have E:=lz ins vs 4 i (λj hj=>aL j xaa)
  have bZ:=qq E (aL i xaa)
  rw[rB]at m
  refine(Pg W ag U c2 i _ m hi ?_).mono ?_
  ·rw[qJ E.l1]
   intro c
   have ai:=vA c
   have B:=(bZ _ (gI (v:=rnm (fh 4 vs i).2 (vs.getD i hM)) xaa)).1
   have R:=(bZ _ (jm (v:=rnm (fh 4 vs i).2 (vs.getD i hM)) xaa)).1
   omega
  ·rw[qJ E.l1,Gz E.l1 (λo av=>(bZ o av).1)]
   exact λe J h=>⟨h.1,h.2.chg,trivial⟩) R.pos h3
 have H2:V _:=R;have cg:V _:=p;clear R h3 hP P aL cl H an C bp p;obtain⟨_,bk,a8,p2⟩:=aI.o;go_enter func68,ntmps68;exact qhs):Zp:=h
theorem aL.qht(h:Zp:=by
 have aJ:V _:=RB.keepC HR.o bw.o (by rintro (c|c|c)<;>first|(have:=a5.o;omega)|exact c);clear bx;exact qec):Zp:=h
open aL in
theorem PA(w N aA ab br Y c1 ag U c2 aD Z c3 ins vs outs)(hP:PG w br ag aD Y U Z ins vs outs)(P:okG ins vs outs=true)(p:Kb vs)(R:Sl aA U c2 ag)(h3:0<Z->ab=some ⟨aD,0,none⟩):
  Calls prog 68 #[eZ N Y c1 aA U c2 ab Z c3] w λe J=>POk w N ab br Y c1 ag aD Z c3 ins (eqM 4 vs outs) e J:=by
 exact qaz
theorem aM.qba(h:Zp:=by
 rw[bp]at C;generalize cc:(w.alloc (eY N Y c1 aA U c2 ab Z c3)).alloc fp=af at an C;have bR:af.heap.size=w.heap.size+1+1:=by rw[<-cc];simp
 have ao:=ez 0 0 af (.map #[] 0);have aM:=ez 0 0 (af.alloc (.map #[] 0)) (.cells #[.map (some af.heap.size)] 134);have av:=World.ownsMap_made af prog 137 (plainElem (H:=Unit) prog 3);have z:(af.alloc (.map #[] 0)).heap.size=af.heap.size+1:=by simp
 have ad:((af.alloc (.map #[] 0)).alloc (.cells #[.map (some af.heap.size)] 134)).heap.size=af.heap.size+2:=by simp
 have n:CI ((af.alloc (.map #[] 0)).alloc (.cells #[.map (some af.heap.size)] 134)) (af.heap.size+1) af.heap.size 0 (fh 1 vs 0).1:=
  ⟨by omega,by rw[<-z];simp,av.alloc _⟩
 have aI:V _:=((aS.keep an).keep ao).keep aM;have HR:V _:=(C.keep ao).keep aM;have HK:V _:=(H.trans an).trans (ao.trans aM);have a5:V (br<w.heap.size/\ag<w.heap.size/\aD<w.heap.size):=⟨hP.i.lt,hP.v.lt,hP.o.lt⟩
 have cl:vs.length=U:=hP.v.len;obtain⟨⟨cf,l,_⟩,_,aL,_,_⟩:=gz P
 have bx:V _:=Ki ((af.alloc (.map #[] 0)).alloc (.cells #[.map (some af.heap.size)] 134)) N aA ab br Y c1 ag U c2 aD Z c3 (af.heap.size+1) 1 ins vs outs (λb=>b=af.heap.size) (λi W=>CI W (af.heap.size+1) af.heap.size i (fh 1 vs i).1) (hP.keep ((H.trans an).trans (ao.trans aM))) P
  (λb c=>by have:=hP.i.lt;have:=hP.v.lt;have:=hP.o.lt;omega) n
  (λi W W' h c=>h.keepC c (hR hP.v.lt) (hR hP.v.lt)) (λi W hi bB m=>by
  have E:=lz ins vs 1 i (λj hj=>aL j xaa)
  have E1:=lz ins vs 1 (i+1) (λj hj=>aL j xaa)
  have F:=mE p 1 (i+1)
  have o:∀j,j<i+1->Wf ((fh 1 vs (i+1)).1.getD j hM):=λj hj=>NG (E1.ok j hj) xaa cf (λq aq=>jZ (E1.ok q xaa)) (F.at_ j)
  have b1:∀j,j<i->(fh 1 vs (i+1)).1.getD j hM=(fh 1 vs i).1.getD j hM:=λj hj=>im _ _ (by rw[E.l1];exact hj)
  have ae:(fh 1 vs (i+1)).1.getD i hM=rnm (fh 1 vs i).2 (vs.getD i hM):=by
   have:=gX (fh 1 vs i).1 (rnm (fh 1 vs i).2 (vs.getD i hM))
   rw[E.l1]at this
   exact this
  rw[rB]at m
  refine(P4 W ag U c2 i (af.heap.size+1) af.heap.size _ _ _ m E.l1 hi xaa bB xaa (λj hj=>by rw[E.l1]at hj;rw[<-b1 j hj];exact o j xaa) (by rw[<-ae];exact o i xaa)).mono ?_
  intro e J h
  refine⟨?_,h.2.1,h.2.2⟩
  rw[h.1]
  unfold gi
  rw[hK rfl]) R.pos h3
 have H2:V _:=R;have cg:V _:=p;rw[bR]at aI HR HK bx;clear R h3 hP P aL cl cf l H an ao aM C bp bR z ad p av n;have a6:=@run_makeMap prog;obtain⟨_,bk,a8,p2⟩:=aI.o;subst cc;go_enter func65,ntmps65;go_wp2_with fail;clear bk a8 p2 aS a6;generalize (((w.alloc (eY N Y c1 aA U c2 ab Z c3)).alloc fp).alloc (.map #[] 0)).alloc (.cells #[.map (some (w.heap.size+1+1))] 134)=aB at aI HR HK bx⊢;refine yai bx.o ?_;rintro e af ⟨rfl,(f:V _),(bw:V _)⟩;have aJ:V _:=RB.keepC HR.o bw.o (by rintro (c|c|c)<;>(have:=a5.o;omega));clear bx;exact qec):Zp:=h
theorem aM.qed(h:Zp:=by
 refine yay (v:=eZ N Y c1 aA U c2 ab Z c3) (by simp[results,results65,go_sem,bh,aU,aY]) rfl ⟨aA,ag,U,c2,(eqM 1 vs outs).1,rfl,H2.o,⟨?_,?_,?_,f.o.d12,f.o.d13,f.o.d23⟩,Lk.refl _,?_,?_,.inl rfl⟩
 ·exact f.o.i.keep K (hR a5.o)
 ·exact f.o.v.keep K (hR a5.o)
 ·exact f.o.o.keep K (hR a5.o)
 ·exact mE cg.o 1 _
 refine Chg.new (Chg.new HK.o.chg bw.o (λb hb c=>?_)) (K.chg1 (S:=λb=>b=w.heap.size+1) rfl) (λb hb c=>by omega);rcases c with c|c|c
 ·exact .inl c
 ·exact .inr c
 omega):Zp:=h
open aM in
theorem K3(w N aA ab br Y c1 ag U c2 aD Z c3 ins vs outs)(hP:PG w br ag aD Y U Z ins vs outs)(P:okG ins vs outs=true)(p:Kb vs)(R:Sl aA U c2 ag)(h3:0<Z->ab=some ⟨aD,0,none⟩):
  Calls prog 65 #[eZ N Y c1 aA U c2 ab Z c3] w λe J=>POk w N ab br Y c1 ag aD Z c3 ins (eqM 1 vs outs) e J:=by
 exact qaz
theorem aN.qba(h:Zp:=by
 have bO:((w.alloc (eY N Y c1 aA U c2 ab Z c3)).alloc fp).heap.size=w.heap.size+1+1:=by simp
 have az:=A7 U ((w.alloc (eY N Y c1 aA U c2 ab Z c3)).alloc fp) xaa;have bR:(((w.alloc (eY N Y c1 aA U c2 ab Z c3)).alloc fp).alloc (.cells (madeCells #[.slice none 0 0] U) 47)).heap.size=w.heap.size+1+1+1:=by simp
 have bi:=LW.made ((w.alloc (eY N Y c1 aA U c2 ab Z c3)).alloc fp) U (((w.alloc (eY N Y c1 aA U c2 ab Z c3)).alloc fp).alloc (.cells (madeCells #[.slice none 0 0] U) 47)).heap.size;have ao:=ez 0 0 ((w.alloc (eY N Y c1 aA U c2 ab Z c3)).alloc fp) (.cells (madeCells #[.slice none 0 0] U) 47);rw[bO]at az bi;rw[bp]at C;have aI:V _:=(aS.keep an).keep ao;have HR:V _:=C.keep ao;have aW:V _:=hP.keep ((H.trans an).trans ao);have HK:V _:=(H.trans an).trans ao;have bP:V _:=bi;have ae:V _:=bR;exact qfp):Zp:=h
theorem aN.qfq(h:Zp:=by
 clear R hP P cf l co aL av cl bi C bp bO bR H an ao p;obtain⟨_,s0,ax,aN⟩:=aS;obtain⟨_,ba,aO,aR⟩:=aI.o;go_enter func66,ntmps66;go_wp2_with fail;clear ba aO aR s0 ax aN az;generalize ((w.alloc (eY N Y c1 aA U c2 ab Z c3)).alloc fp).alloc (.cells (madeCells #[.slice none 0 0] U) 47)=aB at aI HR aW HK bP ae⊢;go_loopw [14] (λx W=>∃(i:Nat) (us:List Vl) (Vs:List (List Nat)),i<=U/\x=hI i/\V (FI W aB ag (w.heap.size+1+1) U i vs us Vs)) (λx _=>U-(intOf x).toNat)
 case atStart=>exact⟨0,[],List.replicate U [],Nat.zero_le _,rfl,⟨by simpa using aW.o.v,rfl,rfl,λv aL=>by simp at aL,bP.o,λk x au=>by
   rw[yah,List.getElem?_replicate]at au
   split at au<;>simp at au,λj hj=>by omega,Chg.refl _ _⟩⟩
 case round=>
  obtain⟨i,us,Vs,hi,rfl,bu⟩:=hrel;clear bP;by_cases aF:i<U
  ·obtain rfl:=Sl.pos H2.o xaa;have m:i<vs.length:=by rw[HL.o];exact aF
   have cx:aB.heap.size<=wr.heap.size:=bu.o.ch.size;have b4:aB.heap.size=w.heap.size+1+1+1:=ae.o;have bg:=bu.o.va.at_ i aF;rw[xM bu.o.len]at bg;have ct:V _:=bg;have P:=bT.o i aF;have bV:=jl P;have c9:=wR P;have bf:V _:=G0.keepC aI.o bu.o.ch (by rintro (c|c)<;>(have:=a5.o;omega))
   have aw:V (∀W,Kept 0 0 wr W->Calls prog 107 #[(vs.getD i hM).agg,hH ag U c2] W λe J=>e=.returned (.bool (ofC us (vs.getD i hM)))/\Kept 0 0 W J):=λW Q=>by
    have:=uI W (vs.getD i hM) ag U c2 _ (bu.o.va.keep Q yaa) (λo h=>hR (bV o h))
    rw[Kc (λo h=>by rw[bu.o.len];exact bV o h)]at this
    exact this
   have ad:V (ofC us (vs.getD i hM)=false->jk (fV vs i) (vs.getD i hM)=vs.getD i hM/\(vs.getD i hM).op≠1):=λh=>NH bu.o.lk h
   have cn:∀j,j<i->(us.getD j hM).len=(vs.getD j hM).len:=λj hj=>by
    have bl:=congrArg Vl.len (bu.o.lk.at_ j)
    have e:(us.getD j hM).len=((fV vs i).getD j hM).len:=bl
    rw[e,mD vs i j hj]
   have aj:V (∀zs,ofC us (vs.getD i hM)=true->fU zs (kop (vs.getD i hM) Vs)->_):=λzs ai bp=>NJ (zs:=zs) P bu.o.lk bu.o.hd ai bu.o.wd (mW cg.o i) cn (λj hj=>by rw[cn j hj];have:=of_decide_eq_true (jZ (bT.o j xaa));omega) bp
   have g:V (∀W,Kept 0 0 wr W->ofC us (vs.getD i hM)=true->Calls prog 25 #[(vs.getD i hM).agg,hH (w.heap.size+1+1) U U,.slice none 0 0] W λe J=>∃ak r aP,e=.returned (.slice ak r aP)/\Cn J W.heap.size (.slice ak r aP) (kop (vs.getD i hM) Vs)/\Kept 0 0 W J):=λW Q ai=>
    pB W (vs.getD i hM) (λc=>by unfold ofC at ai;rw[c]at ai;simp at ai) (w.heap.size+1+1) U U 0 0 U none Vs (bu.o.lw.keepR Q yab yaa).lv yad (Kb.at_ cg.o i) bu.o.wd (List.all_eq_true.2 λo h=>decide_eq_true (hR (bV o h)))
   have cq:V (∀x∈kop (vs.getD i hM) Vs,x<18446744073709551616):=by
    show ∀x∈_,_;rw[rD];exact xJ (Kb.at_ cg.o i) (kD (bu.o.wd _)) (kD (bu.o.wd _)) (kD (bu.o.wd _))
   have t:V ((vs.getD i hM).len.toNat<=1000):=by have:=of_decide_eq_true (jZ P);show _<=_;omega
   have aT:V (∀W,Kept 0 0 wr W->jk (fV vs i) (vs.getD i hM)=vs.getD i hM->(vs.getD i hM).op≠1->FI W aB ag (w.heap.size+1+1) U (i+1) vs (us++[vs.getD i hM]) Vs):=λW Q B R=>bu.o.stay Q m cg.o B R;clear P bV c9 cn;have bw:V (vs.getD i hM=vs.getD i hM):=rfl;generalize aL:vs.getD i hM=v at bg ct aw ad aj g cq t aT;have cz:V (vs.getD i hM=v):=aL;clear aL bw;obtain⟨bh,aU,aY,bW,b9,cj⟩:=bg;obtain⟨_,bk,a8,p2⟩:=bf.o;have bH:=ez 0 0 wr (eK v.op v.len v.a v.b v.c v.k);have q:V _:=bH;have bv:V (At (wr.alloc (eK v.op v.len v.a v.b v.c v.k)) wr.heap.size 0 v):=jF wr v;have n:V _:=bf.o.keep bH;have bc:V (wr.heap.size<(wr.alloc (eK v.op v.len v.a v.b v.c v.k)).heap.size):=by show _<_;simp
   obtain⟨_,bF,bN,b0⟩:=n.o;go_wp2_with fail;clear bh aU aY bW b9 cj bk a8 p2 bF bN b0 bH;generalize wr.alloc (eK v.op v.len v.a v.b v.c v.k)=af at q bv n bc⊢;refine yai (aw.o af q.o) ?_;rintro e aX ⟨rfl,aM⟩;have aV:V _:=q.o.trans aM;have aK:V _:=bv.o.keep bc.o aM yaa;have cd:V _:=n.o.keep aM;have ay:V (wr.heap.size<aX.heap.size):=yaj bc.o aM.size;clear aM bv n bc q aw;cases f:ofC us v
   ·obtain⟨ax,aN⟩:=ad.o f;have aa:V _:=aT.o aX aV.o ax aN;clear f ax aN ad aj g aT;exact xiv
   have bd:V _:=g.o aX aV.o f;have ce:V _:=λzs=>aj.o zs f;clear f ad g aj;obtain⟨bL,bI,bJ,cb,ci,bx⟩:=aK.o;simp only[Nat.zero_add]at bI bJ cb ci bx;go_wp2_with fail;clear bL bI bJ cb ci bx;refine yai bd.o ?_;rintro e bm ⟨ak,r,aP,rfl,bC,bZ⟩;obtain⟨cC,ne,cr,zs,G,cB,ah,bq⟩:=bC;cases G;obtain⟨am,al,(aJ:V _),X⟩:=ce.o zs bq;have ap:r=zs.length:=ah.len.symm;have a9:1<=r:=xaa;have aZ:V _:=Ka bm _ _ ak r aP zs ah a9 (hR t.o);have bX:V _:=aV.o.trans bZ;have bz:V _:=aK.o.keep ay.o bZ yaa;have ch:V _:=cd.o.keep bZ;have a7:V (wr.heap.size<bm.heap.size/\aB.heap.size<=aX.heap.size):=⟨yaj ay.o bZ.size,hR ay.o⟩
   have u:V _:=ah;have F:V _:=bq;have ec:V (r<=aP):=cB;clear bZ bd ce ah bq cB am al ap aV aK cd ay;go_wp2_with fail;refine yai aZ.o ?_;rintro e bA ⟨rfl,rfl⟩;cases s:uni zs
   ·obtain⟨ax,aN⟩:=X s;have aa:V _:=aT.o bm bX.o ax aN;clear s ax aN aT X aJ;exact xiv
   obtain⟨ax,aN⟩:=aJ.o s;have cu:aB.heap.size<=aX.heap.size:=a7.o.2;have cO:Cn bm aB.heap.size (.slice ak r aP) (kop v Vs):=Cn.low ⟨ak,r,aP,zs,rfl,ec.o,u.o,F.o⟩ cu;have bU:zs.getD 0 0<18446744073709551616:=fx u.o.lt 0;rcases u.o.at_ with z|⟨ge,off,rfl,ek,cI,b7,be⟩
   ·omega
   have cr:=be 0 xaa;rw[Nat.add_zero]at cr;have aH:V (∀aG,Kept 0 0 (q8 bm ag (i*6) ⟨1,v.len,0,0,0,zs.getD 0 0⟩) aG->_):=λaG y=>FI.put bu.o bX.o y aF HL.o (hR a5.o) (hR a5.o) cO (hU cz.o ax) bU cq.o aN;have b5:ag≠w.heap.size:=hR a5.o
   have O:ag≠wr.heap.size:=hR a5.o
   have bE:ag≠ge:=hR a5.o
   obtain⟨bL,bI,bJ,cb,ci,bx⟩:=bz.o;simp only[Nat.zero_add]at bI bJ cb ci bx;obtain⟨_,bk,a8,p2⟩:=ch.o;obtain⟨bj,aQ,a6,bK,b1,bY⟩:=At.keep ct.o bu.o.va.lt bX.o yaa;have b6:=(VA.keep bu.o.va bX.o yaa).free;have ck:0<r:=a9;generalize zs.getD 0 0=bM at cr aH;clear ax aN cO bU be aJ X aZ aT u F ec s;go_wp2_with fail;go_region_held3 (λW:World=>W.cell? ⟨w.heap.size,1,none⟩=some (hH ag U c2)/\W.cell? ⟨wr.heap.size,1,none⟩=some (hI v.len)/\W.cell? ⟨ge,off,none⟩=some (.float .f64 bM)) (first|go_keep|(exact⟨(fX bm ag (i*6) _ _ ⟨1,v.len,0,0,0,bM⟩ (.inl b5)).trans a8,(fX bm ag (i*6) _ _ ⟨1,v.len,0,0,0,bM⟩ (.inl O)).trans bI,(fX bm ag (i*6) _ _ ⟨1,v.len,0,0,0,bM⟩ (.inl bE)).trans cr⟩)) (fail);obtain⟨aq,(R':V _)⟩:=aH.o ((((((bm.setCell ⟨ag,i*6,none⟩ (hI 1)).setCell ⟨ag,i*6+1,none⟩ (hI v.len)).setCell ⟨ag,i*6+2,none⟩ (hI 0)).setCell ⟨ag,i*6+3,none⟩ (hI 0)).setCell ⟨ag,i*6+4,none⟩ (hI 0)).setCell ⟨ag,i*6+5,none⟩ (.float .f64 bM)).drew (eF _);obtain⟨bb,S,bD,cL,_⟩:=aq.at_ i aF;have bB:=aq.free i;clear aH;generalize ((((((bm.setCell ⟨ag,i*6,none⟩ (hI 1)).setCell ⟨ag,i*6+1,none⟩ (hI v.len)).setCell ⟨ag,i*6+2,none⟩ (hI 0)).setCell ⟨ag,i*6+3,none⟩ (hI 0)).setCell ⟨ag,i*6+4,none⟩ (hI 0)).setCell ⟨ag,i*6+5,none⟩ (.float .f64 bM)).drew=cc at aq R' cL bB⊢;clear aq bL bI bJ cb ci bx bk a8 p2 bj aQ a6 bK b1 bY b6 cr;go_wp2;go_roundw
   case rel=>exact⟨i+1,_,_,by omega,by go_num,R'⟩
   case measure=>simp[intOf];omega
  obtain rfl:i=U:=xaa;have cx:aB.heap.size<=wr.heap.size:=bu.o.ch.size;have b4:aB.heap.size=w.heap.size+1+1+1:=ae.o
  have bS:V (VA wr ag i us):=by
   have:=bu.o.va;rw[List.drop_of_length_le (hW HL.o),List.append_nil]at this;exact this
  have bQ:V _:=G0.keepC aI.o bu.o.ch (by rintro (c|c)<;>(have:=a5.o;omega));have cw:V _:=RB.keepC HR.o bu.o.ch (by rintro (c|c)<;>(have:=a5.o;omega));have b2:V _:=IBk.keepC aW.o.i bu.o.ch (by rintro (c|c)<;>(have:=a5.o;omega));have b3:V _:=IBk.keepC aW.o.o bu.o.ch (by rintro (c|c)<;>(have:=a5.o;omega));have I:V (Chg (λb=>b=ag\/b=aD) w wr):=Chg.new HK.o.chg bu.o.ch (λb hb c=>by rcases c with c|c<;>first|exact .inl c|omega);have cR:V (Lk us (fV vs vs.length)):=hU HL.o bu.o.lk
  have bo:V _:=bu.o.kb;clear bu;obtain⟨_,bk,a8,p2⟩:=bQ.o;obtain⟨_,bn,aC,a0,bG,f1,f2⟩:=cw.o;go_wp2_with fail;obtain⟨bh,aU,aY⟩:=fj wr (w.heap.size+1) _ _ _ bn aC a0 (.slice N Y c1) (.slice aA i c2) (.slice ab Z c3);have K:=ft wr (w.heap.size+1) (.slice N Y c1) (.slice aA i c2) (.slice ab Z c3);refine yay (v:=eZ N Y c1 aA i c2 ab Z c3) (by simp[results,results66,go_sem,bh,aU,aY]) rfl ⟨aA,ag,i,c2,us,rfl,H2.o,⟨?_,?_,?_,?_,?_,?_⟩,cR.o,bo.o,?_,.inl rfl⟩
  ·exact b2.o.keep K (hR a5.o)
  ·exact bS.o.keep K (hR a5.o)
  ·exact b3.o.keep K (hR a5.o)
  ·exact a5.o.2.2.2.1
  ·exact a5.o.2.2.2.2.1
  ·exact a5.o.2.2.2.2.2
  exact Chg.new I.o (K.chg1 (S:=λb=>b=w.heap.size+1) rfl) (λb hb c=>by omega)):Zp:=h
open aN in
theorem PB(w N aA ab br Y c1 ag U c2 aD Z c3 ins vs outs)(hP:PG w br ag aD Y U Z ins vs outs)(P:okG ins vs outs=true)(p:Kb vs)(R:Sl aA U c2 ag):
  Calls prog 66 #[eZ N Y c1 aA U c2 ab Z c3] w λe J=>POk w N ab br Y c1 ag aD Z c3 ins (fV vs vs.length,outs) e J:=by
 obtain⟨⟨cf,l,co⟩,_,aL,av,_⟩:=gz P;have cl:vs.length=U:=hP.v.len;have b8:U<=2000:=xaa;have bT:V (∀j,j<U->okV ins vs j=true):=λj hj=>aL j xaa;have HL:V (vs.length=U):=cl;have cg:V _:=p;exact qaz
end
section
open Go.RowKit Flt
attribute [local go_sem] eG eE eD lT
variable {w:World}{ins:List Int}
theorem POg.k{N ab br Y c1 ag aD Z c3 M e J}(h:POg w N ab br Y c1 ag aD Z c3 ins M e J):POk w N ab br Y c1 ag aD Z c3 ins M e J:=by
 obtain⟨f,U,c2,us,B,R,rfl,a8⟩:=h;exact⟨_,f,U,c2,M.1,B,.inr rfl,R,Lk.refl _,a8⟩
structure OpK (w W:World)(O R:Nat)(B1 B2 B3:Option Addr)(G1 n1 d1 G2 n2 d2 G3 n3 d3:Nat)(ins:List Int)(us:List Vl)(M:List Vl×List Int):Prop where
 pg:PG W G1 G2 G3 n1 n2 n3 ins us M.2
 sl:Sl B2 n2 d2 G2
 lk:Lk us M.1
 kb:Kb us
 out:RB W O (.slice B1 n1 d1) (.slice B2 n2 d2) (.slice B3 n3 d3)
 res:RB W R (.slice none 0 0) (.slice none 0 0) (.slice none 0 0)
 ne:G1≠R/\G2≠R/\G3≠R
 ke:Kept 0 0 w W
theorem Ig{W W' W2 aY aa q Y d1 f U d2 o Z d3 G2' n2' c2' j t r B2' us M}(out:RB W aY (.slice j Y d1) (.slice t U d2) (.slice r Z d3))(e:RB W aa (.slice none 0 0) (.slice none 0 0) (.slice none 0 0))(ne:(q≠aY/\f≠aY/\o≠aY)/\(q≠aa/\f≠aa/\o≠aa)/\aY≠aa)(lo:w.heap.size<=aY/\w.heap.size<=f/\w.heap.size<=o)(h:Kept 0 0 w W)(k:Kept 0 0 W W')
  (ad:Sl B2' n2' c2' G2') (aK:PG W2 q G2' o Y n2' Z ins us M.2) (ah:Lk us M.1) (O:Kb us) (ai:Chg (λb=>b=f\/b=o) W' W2) (aW:G2'=f\/W'.heap.size<=G2'):RB W2 aY (.slice j Y d1) (.slice t U d2) (.slice r Z d3)/\OpK w (LR W2 aY (.slice j Y d1) (.slice B2' n2' c2') (.slice r Z d3)) aY aa j B2' r q Y d1 G2' n2' c2' o Z d3 ins us M:=by
 obtain⟨⟨ae,a9,ak⟩,⟨e4,bx,J⟩,l⟩:=ne;have av:=out.sz;have C:=e.sz;have bp:=k.size;have bS:=(out.keep k).keepC ai xaa;have K:=ft W2 aY (.slice j Y d1) (.slice B2' n2' c2') (.slice r Z d3);have bR:Chg (λb=>b=aY) W2 (LR W2 aY (.slice j Y d1) (.slice B2' n2' c2') (.slice r Z d3)):=K.chg1 rfl;have m:G2'≠aY:=by rcases aW with c|c<;>omega
 have g:G2'≠aa:=by rcases aW with c|c<;>omega
 exact⟨bS,⟨aK.i.keep K xaa,aK.v.keep K xaa,aK.o.keep K xaa,aK.d12,aK.d13,aK.d23⟩,ad,ah,O,ph bS _ _ _,((e.keep k).keepC ai xaa).keepC bR xaa,⟨e4,g,J⟩,(Chg.kept (S:=λb=>b=f\/b=o) (h.trans k) ai (λi hi=>by omega)).new K xaa⟩
def PRk (w:World)(n1 n3:Nat)(ins:List Int)(M:List Vl×List Int)(e:Ending)(w':World):Prop:=
 ∃B1 d1 B2 n2 d2 B3 d3 us,e=.returned (.tuple #[eZ B1 n1 d1 B2 n2 d2 B3 n3 d3,.int .i64 0])/\LsI w' B1 n1 d1 ins/\LsV w' B2 n2 d2 us/\LsI w' B3 n3 d3 M.2/\((∀g,B2=some ⟨g,0,none⟩->w.heap.size<=g)/\(∀g,B1=some ⟨g,0,none⟩->w.heap.size<=g)/\∀g,B3=some ⟨g,0,none⟩->w.heap.size<=g)/\Lk us M.1/\Kb us/\Kept 0 0 w w'
theorem Sl.lv{b n c g vs}(h:Sl b n c g)(f:VA w g n vs):LsV w b n c vs:=⟨f.len,h.imp id λe=>⟨g,e,f⟩⟩
theorem Qa(w p)(an:0<=p/\p<5)(N aA ab bK Y c1 U c2 Z c3 bb ba bR ins vs outs)(B:LsI w N Y c1 ins)(R:LsV w aA U c2 vs)(h3:LsI w ab Z c3 outs)(aF:Kb vs)(h:okG ins vs outs=true)(aK:IS w bb ba bK 1 [p]):
  Calls prog 22 #[eZ N Y c1 aA U c2 ab Z c3,.slice bK 1 bR] w (PRk w Y Z ins (gG p vs outs)):=by
 obtain⟨⟨cf,l,co⟩,_,_,_,_⟩:=gz h;rw[B.1]at cf;rw[R.1]at l;rw[h3.1]at co;have H:=ez 0 0 w (eY N Y c1 aA U c2 ab Z c3);have v:=ez 0 0 (w.alloc (eY N Y c1 aA U c2 ab Z c3)) fp;have aH:=H.trans v;have bv:V _:=uS _ _ _ _ Y c1 U c2 Z c3 ins vs outs (GS.keep ⟨B.is,R.vs aF,h3.is⟩ aH);rw[h]at bv
 have bX:V (∀W,Kept 0 0 w W->Calls prog 41 #[hI 5,.slice bK 1 bR] W λe J=>e=.returned (.bool true)/\W=J):=λW Q=>by
  have:=Kf W _ _ bK 1 bR 5 [p] (aK.keep Q yaa) xaa
  rw[List.all_cons,List.all_nil,Bool.and_true,show fI p 5=true from decide_eq_true an]at this
  exact this
 have a6:V _:=aK;have aS:V (∀W,Kept 0 0 w W->_):=λW Q=>Pz W N aA ab Y c1 U c2 Z c3 ins vs outs (B.keep Q) (R.keep Q) (h3.keep Q) xaa xaa xaa;have HE:V (ins.length=Y/\vs.length=U/\outs.length=Z):=⟨B.1,R.1,h3.1⟩
 have aI:V _:=(fE w (.slice N Y c1) (.slice aA U c2) (.slice ab Z c3)).keep v;have a5:V _:=(Br w #[.slice N Y c1,.slice aA U c2,.slice ab Z c3] 26).keep v yaa;have bF:=fY (w.alloc (eY N Y c1 aA U c2 ab Z c3));rw[show(w.alloc (eY N Y c1 aA U c2 ab Z c3)).heap.size=w.heap.size+1 by simp]at bF;have bD:V _:=bF;have HK:V _:=aH;have X:V (((w.alloc (eY N Y c1 aA U c2 ab Z c3)).alloc fp).heap.size=w.heap.size+1+1):=by show _=_;simp
 have bo:V (Kb vs/\okG ins vs outs=true):=⟨aF,h⟩
 clear aH h B R h3 bF aK H v aF cf l co;obtain⟨_,bk,a8,p2⟩:=aI.o;go_enter func22,ntmps22;go_wp2_with fail;clear bk a8 p2;generalize (w.alloc (eY N Y c1 aA U c2 ab Z c3)).alloc fp=aB at aI bD HK bv X a5⊢;refine yai bv.o ?_;rintro e af ⟨rfl,ao⟩;have bN:V _:=HK.o.trans ao;have y:V _:=aI.o.keep ao;have ad:V _:=bD.o.keep ao;have cw:V _:=a5.o.keep ao yaa;have ae:V (w.heap.size+1+1<=af.heap.size):=by have:=ao.size;rw[X.o]at this;exact this
 clear ao bv HK aI bD X a5;go_wp2_with fail;refine yai (bX.o af bN.o) ?_;rintro e aX ⟨rfl,rfl⟩;go_wp2_with fail;refine yai (DP _) ?_;rintro e bm ⟨rfl,bZ⟩;have bH:=ez 0 0 bm Ca;have az:V _:=GH bm;have cp:V _:=bN.o.trans (bZ.trans bH);have bf:V _:=y.o.keep (bZ.trans bH);have ah:V _:=ad.o.keep (bZ.trans bH);have d0:V _:=cw.o.keep (bZ.trans bH) yaa;have a7:V (w.heap.size+1+1<=bm.heap.size/\(bm.alloc Ca).heap.size=bm.heap.size+1):=⟨hS ae.o bZ.size,by simp⟩
 obtain⟨_,bk,a8,p2⟩:=bf.o;clear bZ bH bN y ad ae cw;go_wp2_with fail;clear bk a8 p2;generalize bm.alloc Ca=bA at az cp bf ah a7 d0⊢;refine yai (aS.o bA cp.o) ?_;rintro e ck ⟨j,d1,t,d2,r,d3,rfl,⟨b1,bS,b5⟩,⟨S,C,au⟩,⟨cq,ch⟩,b6⟩;have F:=ez 0 0 ck (eY j Y d1 t U d2 r Z d3);have bQ:=a7.o;have bV:=b6.size;have aQ:=cq.lt;obtain⟨q,f1,ax,am⟩:=Ie b1 HE.o.1 cq;obtain⟨f,f2,aN,al⟩:=K2 bS HE.o.2.1 (d0.o.keep b6 yaa);obtain⟨o,f3,bC,ar⟩:=Ie b5 HE.o.2.2 ch;have aT:=If am al xaa S;have aV:=If am ar xaa C;have aW:=If al ar xaa au;have aJ:V (PG (ck.alloc (eY j Y d1 t U d2 r Z d3)) q f o Y U Z ins vs outs):=(PG.mk f1 f2 f3 aT aV aW).keep F;have aw:V (Sl j Y d1 q/\Sl t U d2 f/\Sl r Z d3 o):=⟨ax,aN,bC⟩
 have br:=f1.lt;have ag:=f2.lt;have aD:=f3.lt;have aG:V ((q≠ck.heap.size/\f≠ck.heap.size/\o≠ck.heap.size)/\(q≠w.heap.size+1/\f≠w.heap.size+1/\o≠w.heap.size+1)/\ck.heap.size≠w.heap.size+1):=⟨⟨by omega,by omega,by omega⟩,⟨by omega,by omega,by omega⟩,by omega⟩
 have I:V ((w.heap.size<=ck.heap.size/\w.heap.size<=f/\w.heap.size<=o)/\w.heap.size<=q):=⟨⟨by omega,by omega,by omega⟩,by omega⟩
 have aO:V _:=GD ck (.slice j Y d1) (.slice t U d2) (.slice r Z d3);have aL:V _:=ah.o.keep (b6.trans F);have aR:V _:=az.o.keepC (S:=λ_=>False) (b6.trans F).chg id;have aq:V _:=cp.o.trans (b6.trans F);clear b1 bS b5 S C au cq ch b6 F bQ bV aQ f1 f2 f3 ax aN bC am al ar aT aV aW br ag aD az cp bf ah aS bX d0;go_wp2_with fail;generalize ck.alloc (eY j Y d1 t U d2 r Z d3)=cc at aJ aO aL aR aq⊢;go_loopw [28] (λx W=>∃k:Nat,k<=1/\x=hI k/\V (k=0->W=cc)/\V (k=1->∃t G n d us,OpK w W ck.heap.size (w.heap.size+1) j t r q Y d1 G n d o Z d3 ins us (gG p vs outs)/\w.heap.size<=G)) (λx _=>1-(intOf x).toNat)
 case atStart=>exact⟨0,Nat.zero_le _,rfl,λ_=>rfl,λc=>by omega⟩
 case round=>
  obtain⟨k,O,rfl,bB,ak⟩:=hrel;rcases (by omega:k=0\/k=1) with rfl|rfl
  ·obtain rfl:=bB.o rfl;clear bB ak O;obtain⟨aM,op,ap,rfl,ai,_,_,a9⟩:=(IS.keep a6.o aq.o yaa).at_idx (o:=0) xaa xaa;obtain rfl:ap=0:=xaa;have bg:wr.cell? ⟨aM,op,none⟩=some (hI p):=a9;obtain⟨_,bn,aC,a0,bG,f1,f2⟩:=aO.o;obtain⟨_,bw,a1,a2,a3,a4⟩:=aR.o;have P:V (∀W' W2 B2' G2' n2' c2' s,Kept 0 0 wr W'->_->_->_->_->_->_->_):=λW' W2 B2' G2' n2' c2' s Q bL bI bJ cb ci bx=>Ig (ins:=ins) (W':=W') (W2:=W2) (G2':=G2') (n2':=n2') (c2':=c2') (B2':=B2') (us:=s) (M:=gG p vs outs) aO.o aL.o aG.o I.o.1 aq.o Q bL bI bJ cb ci bx;have cd:V (w.heap.size<=wr.heap.size):=aq.o.size;have av:=an;clear a9 ai an;rcases (by omega:p=0\/p=1\/p=2\/p=3\/p=4) with rfl|rfl|rfl|rfl|rfl
   ·have u:V (∀W',Kept 0 0 wr W'->Calls prog 64 #[eZ j Y d1 t U d2 r Z d3] W' (POk W' j r q Y d1 f o Z d3 ins (gG 0 vs outs))):=λW' Q=>(Pn W' j t r q Y d1 f U d2 o Z d3 ins vs outs (aJ.o.keep Q) bo.o.2 bo.o.1 aw.o.2.1.pos aw.o.2.2.pos).mono λe J h=>by
     rw[Kj]at h
     exact h.k
    clear av;go_wp2_with fail;go_region_with ((go_at_call 64;refine yai (u.o _ (eF wr)) ?_;rintro e m ⟨B2',G2',n2',c2',s,rfl,bM,aZ,be,bz,bE,bl⟩;obtain⟨z,i⟩:=P.o _ m B2' G2' n2' c2' s (eF wr) bM aZ be bz bE bl;obtain⟨_,b4,bi,ce,aj,B,R⟩:=z;have aa:V _:=i;have R2:V (w.heap.size<=G2'):=(by have:=cd.o;have:=I.o;have:wr.drew.heap.size=wr.heap.size:=rfl;show _<=_;omega);clear i bM aZ be bz bE bl))
    all_goals
     go_wp2
     go_roundw
     case rel=>exact⟨1,by omega,by go_num,λc=>by omega,λ_=>⟨_,_,_,_,_,aa.o,R2.o⟩⟩
     case measure=>simp[intOf]
   ·have u:V (∀W',Kept 0 0 wr W'->Calls prog 65 #[eZ j Y d1 t U d2 r Z d3] W' (POk W' j r q Y d1 f o Z d3 ins (gG 1 vs outs))):=λW' Q=>(K3 W' j t r q Y d1 f U d2 o Z d3 ins vs outs (aJ.o.keep Q) bo.o.2 bo.o.1 aw.o.2.1 aw.o.2.2.pos).mono λe J h=>by
     rw[xQ (by decide:(1:Int)≠0) (by decide:(1:Int)≠2)]at h
     exact h
    clear av;go_wp2_with fail;go_region_with ((go_at_call 65;refine yai (u.o _ (eF wr)) ?_;rintro e m ⟨B2',G2',n2',c2',s,rfl,bM,aZ,be,bz,bE,bl⟩;obtain⟨z,i⟩:=P.o _ m B2' G2' n2' c2' s (eF wr) bM aZ be bz bE bl;obtain⟨_,b4,bi,ce,aj,B,R⟩:=z;have aa:V _:=i;have R2:V (w.heap.size<=G2'):=(by have:=cd.o;have:=I.o;have:wr.drew.heap.size=wr.heap.size:=rfl;show _<=_;omega);clear i bM aZ be bz bE bl))
    all_goals
     go_wp2
     go_roundw
     case rel=>exact⟨1,by omega,by go_num,λc=>by omega,λ_=>⟨_,_,_,_,_,aa.o,R2.o⟩⟩
     case measure=>simp[intOf]
   ·have u:V (∀W',Kept 0 0 wr W'->Calls prog 66 #[eZ j Y d1 t U d2 r Z d3] W' (POk W' j r q Y d1 f o Z d3 ins (gG 2 vs outs))):=λW' Q=>(PB W' j t r q Y d1 f U d2 o Z d3 ins vs outs (aJ.o.keep Q) bo.o.2 bo.o.1 aw.o.2.1).mono λe J h=>by
     rw[Kk]at h
     exact h
    clear av;go_wp2_with fail;go_region_with ((go_at_call 66;refine yai (u.o _ (eF wr)) ?_;rintro e m ⟨B2',G2',n2',c2',s,rfl,bM,aZ,be,bz,bE,bl⟩;obtain⟨z,i⟩:=P.o _ m B2' G2' n2' c2' s (eF wr) bM aZ be bz bE bl;obtain⟨_,b4,bi,ce,aj,B,R⟩:=z;have aa:V _:=i;have R2:V (w.heap.size<=G2'):=(by have:=cd.o;have:=I.o;have:wr.drew.heap.size=wr.heap.size:=rfl;show _<=_;omega);clear i bM aZ be bz bE bl))
    all_goals
     go_wp2
     go_roundw
     case rel=>exact⟨1,by omega,by go_num,λc=>by omega,λ_=>⟨_,_,_,_,_,aa.o,R2.o⟩⟩
     case measure=>simp[intOf]
   ·have u:V (∀W',Kept 0 0 wr W'->Calls prog 67 #[eZ j Y d1 t U d2 r Z d3] W' (POk W' j r q Y d1 f o Z d3 ins (gG 3 vs outs))):=λW' Q=>(P9 W' j t r q Y d1 f U d2 o Z d3 ins vs outs (aJ.o.keep Q) bo.o.2 bo.o.1 aw.o.2.1 aw.o.2.2.pos).mono λe J h=>by
     rw[xQ (by decide:(3:Int)≠0) (by decide:(3:Int)≠2)]at h
     exact h
    clear av;go_wp2_with fail;go_region_with ((go_at_call 67;refine yai (u.o _ (eF wr)) ?_;rintro e m ⟨B2',G2',n2',c2',s,rfl,bM,aZ,be,bz,bE,bl⟩;obtain⟨z,i⟩:=P.o _ m B2' G2' n2' c2' s (eF wr) bM aZ be bz bE bl;obtain⟨_,b4,bi,ce,aj,B,R⟩:=z;have aa:V _:=i;have R2:V (w.heap.size<=G2'):=(by have:=cd.o;have:=I.o;have:wr.drew.heap.size=wr.heap.size:=rfl;show _<=_;omega);clear i bM aZ be bz bE bl))
    all_goals
     go_wp2
     go_roundw
     case rel=>exact⟨1,by omega,by go_num,λc=>by omega,λ_=>⟨_,_,_,_,_,aa.o,R2.o⟩⟩
     case measure=>simp[intOf]
   have u:V (∀W',Kept 0 0 wr W'->Calls prog 68 #[eZ j Y d1 t U d2 r Z d3] W' (POk W' j r q Y d1 f o Z d3 ins (gG 4 vs outs))):=λW' Q=>(PA W' j t r q Y d1 f U d2 o Z d3 ins vs outs (aJ.o.keep Q) bo.o.2 bo.o.1 aw.o.2.1 aw.o.2.2.pos).mono λe J h=>by
    rw[xQ (by decide:(4:Int)≠0) (by decide:(4:Int)≠2)]at h
    exact h
   clear av;go_wp2_with fail;go_region_with ((go_at_call 68;refine yai (u.o _ (eF wr)) ?_;rintro e m ⟨B2',G2',n2',c2',s,rfl,bM,aZ,be,bz,bE,bl⟩;obtain⟨z,i⟩:=P.o _ m B2' G2' n2' c2' s (eF wr) bM aZ be bz bE bl;obtain⟨_,b4,bi,ce,aj,B,R⟩:=z;have aa:V _:=i;have R2:V (w.heap.size<=G2'):=(by have:=cd.o;have:=I.o;have:wr.drew.heap.size=wr.heap.size:=rfl;show _<=_;omega);clear i bM aZ be bz bE bl))
   all_goals
    go_wp2
    go_roundw
    case rel=>exact⟨1,by omega,by go_num,λc=>by omega,λ_=>⟨_,_,_,_,_,aa.o,R2.o⟩⟩
    case measure=>simp[intOf]
  obtain⟨t,G,n,d,us,bu,bq⟩:=ak.o rfl;obtain⟨_,bn,aC,a0,bG,f1,f2⟩:=bu.out;obtain⟨_,s0,ax,aN,ay,bc,bd⟩:=bu.res;have aP:V _:=bu;have b7:V _:=bq;clear bu bB ak bq;go_wp2_with fail;obtain⟨bh,aU,aY⟩:=fj wr (w.heap.size+1) _ _ _ s0 ax aN (.slice j Y d1) (.slice t n d) (.slice r Z d3);have K:=ft wr (w.heap.size+1) (.slice j Y d1) (.slice t n d) (.slice r Z d3);have bT:=aP.o.ne;have cu:=I.o;refine yay (v:=.tuple #[eZ j Y d1 t n d r Z d3,hI 0]) (by simp[results,results22,go_sem,bh,aU,aY]) rfl ⟨j,d1,t,n,d,r,d3,us,rfl,aw.o.1.ni (aP.o.pg.i.keep K xaa),aP.o.sl.lv (aP.o.pg.v.keep K xaa),aw.o.2.2.ni (aP.o.pg.o.keep K xaa),⟨λg e=>?_,λg e=>?_,λg e=>?_⟩,aP.o.lk,aP.o.kb,aP.o.ke.new K xaa⟩
  ·have cg:=b7.o;rcases aP.o.sl with⟨c,_⟩|c<;>rw[c]at e<;>cases e
   omega
  ·rcases aw.o.1 with⟨c,_⟩|c<;>rw[c]at e<;>cases e
   omega
  rcases aw.o.2.2 with⟨c,_⟩|c<;>rw[c]at e<;>cases e
  omega
end
section
open Go.RowKit Flt
attribute [local go_sem] eG eE eD
theorem N6(w:World)(p):IS (w.alloc (.cells #[hI p] 3)) 0 (w.heap.size+1) (some ⟨w.heap.size,0,none⟩) 1 [p]:=
 ⟨rfl,.inr ⟨w.heap.size,0,rfl,Nat.zero_le _,yae,by simp,λk O=>by
  obtain rfl:k=0:=xaa
  simp⟩⟩
theorem rpP(w p)(an:0<=p/\p<5)(N aA ab Y c1 U c2 Z c3 ins vs outs)(B:LsI w N Y c1 ins)(R:LsV w aA U c2 vs)(h3:LsI w ab Z c3 outs)(aF:Kb vs)(h:okG ins vs outs=true):
  Calls prog 8 #[eZ N Y c1 aA U c2 ab Z c3,hI p] w (PRk w Y Z ins (gG p vs outs)):=by
 have bp:((w.alloc (eY N Y c1 aA U c2 ab Z c3)).alloc fp).heap.size=w.heap.size+1+1:=by simp
 have aH:=((ez 0 0 w (eY N Y c1 aA U c2 ab Z c3)).trans (ez 0 0 _ fp)).trans (ez 0 0 _ (.cells #[hI p] 3));have bv:V _:=Qa _ p an N aA ab _ Y c1 U c2 Z c3 _ _ 1 ins vs outs (B.keep aH) (R.keep aH) (h3.keep aH) aF h (N6 ((w.alloc (eY N Y c1 aA U c2 ab Z c3)).alloc fp) p);rw[bp]at bv;have cd:V (w.heap.size+1+1<(((w.alloc (eY N Y c1 aA U c2 ab Z c3)).alloc fp).alloc (.cells #[hI p] 3)).heap.size):=by show _<_;simp
 have HK:V _:=aH;have bF:=fY (w.alloc (eY N Y c1 aA U c2 ab Z c3));rw[show(w.alloc (eY N Y c1 aA U c2 ab Z c3)).heap.size=w.heap.size+1 by simp]at bF;have bD:V _:=bF.keep (ez 0 0 _ (.cells #[hI p] 3));clear aH bF bp B R h3 h aF;go_enter func8,ntmps8;go_wp2_with fail;refine yai bv.o ?_;clear bv;generalize ((w.alloc (eY N Y c1 aA U c2 ab Z c3)).alloc fp).alloc (.cells #[hI p] 3)=aB at HK bD cd⊢;rintro e af ⟨j,d1,t,aJ,d2,r,d3,us,rfl,aZ,be,bz,⟨b8,bP,cx⟩,ae,bE,ao⟩;obtain⟨_,ba,aO,aR,bG,f1,f2⟩:=RB.keep bD.o ao;have bp:=cd.o;obtain⟨bh,aU,aY⟩:=fj af (w.heap.size+1) _ _ _ ba aO aR (.slice j Y d1) (.slice t aJ d2) (.slice r Z d3);have K:=ft af (w.heap.size+1) (.slice j Y d1) (.slice t aJ d2) (.slice r Z d3);have aw:∀{b:Option Addr}{n c:Nat}{xs:List Int},LsI af b n c xs->(∀g,b=some ⟨g,0,none⟩->aB.heap.size<=g)->LsI (fB af (w.heap.size+1) (.slice j Y d1) (.slice t aJ d2) (.slice r Z d3)) b n c xs:=λh l=>⟨h.1,h.2.imp id λ⟨g,e,f⟩=>⟨g,e,f.keep K (hR (l g e))⟩⟩
 have O:=HK.o.size
 have aa:V (PRk w Y Z ins (gG p vs outs) (.returned (.tuple #[eZ j Y d1 t aJ d2 r Z d3,hI 0])) _):=
  ⟨j,d1,t,aJ,d2,r,d3,us,rfl,aw aZ bP,⟨be.1,be.2.imp id λ⟨g,e,f⟩=>⟨g,e,f.keep K (hR (b8 g e))⟩⟩,aw bz cx,⟨λg e=>hR (b8 g e),λg e=>hR (bP g e),λg e=>hR (cx g e)⟩,ae,bE,(HK.o.trans ao).new K xaa⟩
 clear ao K aZ be bz ae bE bp bP b8 cx aw O;go_wp2_with fail;exact yay (v:=.tuple #[eZ j Y d1 t aJ d2 r Z d3,hI 0]) (by simp[results,results8,go_sem,bh,aU,aY]) rfl aa.o
def flE (env:List (List UInt8×Int)):List Value:=env.flatMap λx=>[.string ⟨x.1.toArray⟩,.int .i64 x.2]
def nmL:List (List UInt8):=[[97],[98,50],[99,95],[100],[101],[103],[104]]
theorem K4(a b):flE (a++b)=flE a++flE b:=by simp[flE]
theorem Bs(a):∀k,k<a.length->(flE a)[k*2]? =some (eN (a.getD k ([],0)).1)/\(flE a)[k*2+1]? =some (hI (a.getD k ([],0)).2):=by
 induction a with
 |nil=>intro k O;cases O
 |cons x r ag=>
  intro k O;cases k with
  |zero=>exact⟨rfl,rfl⟩
  |succ k=>
   have h:=ag k (Nat.lt_of_succ_lt_succ O);have e:flE (x::r)=[.string ⟨x.1.toArray⟩,hI x.2]++flE r:=rfl;rw[e,show(k+1)*2=2+k*2 by omega,yar xac,yar yaf];simpa[show 2+k*2+1-2=k*2+1 by omega] using h
theorem PC:(prog.info? 95).map (λi=>(i.zero,i.size,i.bytes))=some (some (.agg #[.string ⟨#[]⟩,hI 0]),2,24):=by kernel_rfl
theorem ms(w){bA rest o a Q}(H:o.guard=none)(s x)
  (av:o.op=.call {callee:=.builtin .append,args:=#[s,x],argTypes:=#[93,93]})
  (I) (u) (env) (ad:a.eval s=u) (aT:w.ownsRow I 95 2 u env.length (flE env))
  (b) (v) (au:a.eval x=hH b 1 1) (aj:w.cell? ⟨b,0,none⟩=some (.string ⟨v.1.toArray⟩)) (B:w.cell? ⟨b,1,none⟩=some (hI v.2))
  (l:env.length+1<=1000) (ae:I<=w.heap.size)
  (h:∀g cap n J,n=(env++[v]).length->J.ownsRow I 95 2 (hH g n cap) n (flE (env++[v]))->Chg (λb=>u.ownBlock=some b) w J->(u.ownBlock=some g\/g=w.heap.size)->wpList prog bA Q rest (a.put o.dst (hH g n cap)) J):wpList prog bA Q (o::rest) a w:=by
 obtain⟨bK,hi,bU,bO,bR⟩:=info_parts PC;refine wpList_append_lies w H s x 93 av I 95 bK _ 2 24 underlying93 hi bU bO bR rfl xab u env.length _ ad aT ⟨b,0,none⟩ 1 1 [.string ⟨v.1.toArray⟩,hI v.2] au rfl ?_ ?_ xab (by unfold maxLen;omega) xaa ae _ rfl ?_
 ·intro j u aJ;match j,aJ with
  |0,aJ=>cases aJ;exact aj
  |1,aJ=>cases aJ;exact B
 ·intro u aJ;simp at aJ;rcases aJ with rfl|rfl<;>rfl
 intro g cap J B R h3 _;have e:env.length+1=(env++[v]).length:=by rw[yak];rfl
 rw[e]at B⊢;refine h g cap _ J rfl ?_ (i7 R) h3;rw[K4];exact B
structure Sw (w:World)(P n cap T:Nat)(a:Option Addr)(bs:List Int)(i:Nat)(env:List (List UInt8×Int))(u:Value)(W:World):Prop where
 rd:RdF W P a n cap i bs
 own:W.ownsRow w.heap.size 95 2 u env.length (flE env)
 tb:∀m,m<7->W.cell? ⟨T,m,none⟩=some (.string ⟨(nmL.getD m []).toArray⟩)
 tl:T<W.heap.size
 wl:w.heap.size<=T
 p0:P<w.heap.size
 nt:u.ownBlock≠some T
 kp:Kept P (P+1) w W
variable {w W W':World}{P n cap T i j:Nat}{a:Option Addr}{bs:List Int}{env:List (List UInt8×Int)}{u:Value}
theorem Sw.step(h:Sw w P n cap T a bs i env u W)(r:RdF W' P a n cap j bs)(k:Kept P (P+1) W W'):Sw w P n cap T a bs j env u W':=
 have aK:=h.p0
 have S:=h.wl
 ⟨r,gM h.own k λ_ e=>.inr (hR ((eI h.own e).1)),λm az=>(k.cell (p:=⟨T,m,none⟩) h.tl (by show ¬(P<=T/\T<P+1);omega)).trans (h.tb m az),yaj h.tl k.size,S,aK,h.nt,h.kp.trans k⟩
theorem Sw.keep0(h:Sw w P n cap T a bs i env u W)(k:Kept 0 0 W W'):Sw w P n cap T a bs i env u W':=h.step (h.rd.keep0 k) (fw k)
theorem Sw.next(h:V (Sw w P n cap T a bs i env u W)):Calls prog 13 #[hG P] W λe W'=>e=.returned (hI (nv bs i:Int))/\Sw w P n cap T a bs (ni bs i) env u W':=
 (jp W P a n cap i bs h.o.rd).mono λ_ _ ⟨e,r,k,_⟩=>⟨e,h.o.step r k⟩
theorem Sw.form(h:Sw w P n cap T a bs i env u W):∃aE cE,u=.slice aE env.length cE:=by
 rcases h.own.2 with⟨e,bl⟩|⟨g,c,_,e,_⟩
 ·exact⟨none,0,by rw[e,bl]⟩
 exact⟨_,c,e⟩
theorem Sw.call{aE nE cE f m xs s}(h:V (Sw w P n cap T a bs i env (.slice aE nE cE) W))(ah:nE<=100)(aV:Dr env bs i f xs m s j):
  Calls prog f (xs ⟨W,P,n,cap,nE,cE,a,aE⟩) W λe W'=>e=.returned (.string s)/\Sw w P n cap T a bs j env (.slice aE nE cE) W'/\Kept P (P+1) W W':=by
 have hn:nE=env.length:=jU h.o.own;subst hn;refine(aV.2 ⟨W,P,n,cap,env.length,cE,a,aE⟩ W ⟨h.o.rd,⟨rfl,ah,λk O=>?_⟩,Kept.refl _ _ _⟩).mono λ_ _ ⟨e,ad⟩=>⟨e,h.o.step ad.rd ad.kp,ad.kp⟩
 replace O:k<env.length:=O;obtain⟨g,c,e,B,R⟩:=h.o.own.form xaa;injection e with ae;have q:=λm v z=>h.o.own.cells (g:=g) (hX ae) m v z;simp only[kj,Nat.zero_add]at q;have aK:=h.o.p0;exact⟨g,ae,by show P<g;omega,R,q _ _ (Bs env k O).1,q _ _ (Bs env k O).2⟩
theorem Sw.last{es v}(h:Sw w P n cap T a bs i env u W)(G:env=es++[v]):∃g cE,u=hH g env.length cE/\W.cell? ⟨g,es.length*2,none⟩=some (.string ⟨v.1.toArray⟩)/\W.cell? ⟨g,es.length*2+1,none⟩=some (hI v.2):=by
 have ah:env.length=es.length+1:=by rw[G,yak];rfl
 obtain⟨g,c,e,_,_⟩:=h.own.form xaa;have q:=λm v z=>h.own.cells (g:=g) (hX e) m v z;simp only[kj,Nat.zero_add]at q;have z:=Bs env es.length xaa;have a9:env.getD es.length ([],0)=v:=by simp[G,List.getD_eq_getElem?_getD]
 rw[a9]at z;exact⟨g,c,e,q _ _ z.1,q _ _ z.2⟩
theorem Sw.app(h:Sw w P n cap T a bs i env u W)(v){g c m}(az:m=(env++[v]).length)(o:W'.ownsRow w.heap.size 95 2 (hH g m c) m (flE (env++[v])))(k:Chg (λb=>u.ownBlock=some b) W W')(aW:u.ownBlock=some g\/g=W.heap.size):Sw w P n cap T a bs i (env++[v]) (hH g m c) W':=by
 have aK:=h.p0;subst az;have ap:Kept w.heap.size W.heap.size W W':=⟨k.os,k.tape,k.output,k.size,λb hb hn=>k.block b hb λe=>hn (eI h.own e)⟩
 refine⟨h.rd.keep ap (.inl aK),o,λm az=>(k.cell (p:=⟨T,m,none⟩) h.tl h.nt).trans (h.tb m az),yaj h.tl k.size,h.wl,aK,?_,h.kp.new ap yad⟩;rcases aW with e|e
 ·show some g≠some T;rw[<-e];exact h.nt
 have:=h.tl;simp only[Value.ownBlock];intro c;injection c;omega
end
section
open Go.RowKit Flt
structure TxA (w:World)(a:Option Addr)(n:Nat)(t:List UInt8):Prop where
 len:t.length=n
 at_:0<n->∃g off,a=some ⟨g,off,none⟩/\TxS w g off n t
theorem TxA.keep{w J a n t}(h:TxA w a n t)(k:Kept 0 0 w J):TxA J a n t:=
 ⟨h.len,λhn=>by obtain⟨g,off,e,B⟩:=h.at_ hn;exact⟨g,_,e,B.keep k⟩⟩
end
section
open Go.RowKit Flt
attribute [local go_sem] eG eE eD
variable {l:List (List UInt8)}{g:ByteArray}{L cb P n cap:Nat}{w:World}{a:Option Addr}
variable {bs:List Int}
theorem N7{ad:Type}{G:Nat->ad->Prop}{aa:Nat->ad->ad->Prop}(h:∀k a,G k a->∃b,G (k+1) b/\aa k a b){bw}(aj:G 0 bw):∃f:Nat->ad,f 0=bw/\∀k,G k (f k)/\aa k (f k) (f (k+1)):=by
 let F:(k:Nat)->{a//G k a}:=λk=>Nat.rec ⟨bw,aj⟩ (λk x=>⟨Classical.choose (h k x.1 x.2),(Classical.choose_spec (h k x.1 x.2)).1⟩) k
 exact⟨λk=>(F k).1,rfl,λk=>⟨(F k).2,(Classical.choose_spec (h k _ (F k).2)).2⟩⟩
structure Ss where
 e:List (List UInt8×Int)
 o:ByteArray
 i:Nat
def Gs (L Z:Nat)(s:Ss):Prop:=s.e.length=L/\(∀x∈s.e,x.1.length<=5)/\s.o.size<=Z
def nmB (k:Nat):List UInt8:=nmL.getD k []
theorem yj(k):(nmB k).length<=5:=by
 match k with
 |0|1|2|3|4|5|6=>decide
 |k+7=>exact Nat.zero_le _
theorem nv3(i):1<=1+(nv bs i:Int)%3/\1+(nv bs i:Int)%3<=3:=xaa
theorem Gs.put{L cb z s}(h:Gs L cb s)(k q x j)(au:x.size<=z):Gs (L+1) (cb+z) ⟨s.e++[(nmB k,q)],s.o++x,j⟩:=
 ⟨by rw[yak,h.1];rfl,λy bV=>by
  rcases List.mem_append.1 bV with c|c
  ·exact h.2.1 y c
  ·rw[List.mem_singleton.1 c];exact yj k,by have:=h.2.2;rw[yaq];omega⟩
def ex3 (q:Int)(d:Int):Xd->Array Value:=λX=>#[.slice X.aE X.nE X.cE,.int .i64 q,.int .i64 d,.pointer (some ⟨X.P,0,none⟩)]
def inX (bs:List Int)(gap:ByteArray)(k:Nat)(s:Ss):ByteArray:=⟨#[105,110,32]⟩++⟨(nmB k).toArray⟩++⟨#[32,58,32]⟩++⟨(gF (1+nv bs s.i%3)).toArray⟩++⟨#[59]⟩++gap
def R1 (bs:List Int)(gap:ByteArray)(k:Nat)(s s':Ss):Prop:=s'=⟨s.e++[(nmB k,1+(nv bs s.i:Int)%3)],s.o++inX bs gap k s,ni bs s.i⟩
def R2 (bs:List Int)(gap:ByteArray)(n k:Nat)(s s':Ss):Prop:=∃x j,Dr s.e bs (ni bs s.i) 58 (ex3 (1+(nv bs s.i:Int)%3) 3) 64000 x j/\s'=⟨s.e++[(nmB (n+k),1+(nv bs s.i:Int)%3)],s.o++(⟨#[108,101,116,32]⟩++⟨(nmB (n+k)).toArray⟩++⟨#[32,61,32]⟩++x++⟨#[59]⟩++gap),j⟩
def R3 (bs:List Int)(gap:ByteArray)(_:Nat)(s s':Ss):Prop:=∃x j,Dr s.e bs (ni bs s.i) 58 (ex3 (1+(nv bs s.i:Int)%3) 4) 256000 x j/\s'=⟨s.e,s.o++(⟨#[111,117,116,32]⟩++x++⟨#[59]⟩++gap),j⟩
theorem Qb(aW:g.size<=8){s}(h:Gs L cb s):∃f:Nat->Ss,f 0=s/\∀k,Gs (L+k) (cb+k*100) (f k)/\R1 bs g k (f k) (f (k+1)):=
 N7 (G:=λk=>Gs (L+k) (cb+k*100)) (λk a bq=>by
  have:=(bq.put k (1+(nv bs a.i:Int)%3) (inX bs g k a) (ni bs a.i) (z:=100) (by
   have:=yj k
   have:=jT (1+nv bs a.i%3)
   simp only[inX,yaq,gl,yap,List.length_nil]
   omega))
  rw[show L+k+1=L+(k+1) by omega,show cb+k*100+100=cb+(k+1)*100 by omega]at this
  exact⟨_,this,rfl⟩) h
theorem Qc(hb:∀i,nv bs i<256)(aW:g.size<=8){s}(n)(h:Gs L cb s):∃f:Nat->Ss,f 0=s/\∀k,Gs (L+k) (cb+k*64100) (f k)/\R2 bs g n k (f k) (f (k+1)):=
 N7 (G:=λk=>Gs (L+k) (cb+k*64100)) (λk a bq=>by
  obtain⟨x,j,aV⟩:=GK bq.2.1 hb 3 xab _ (nv3 (bs:=bs) a.i) (ni bs a.i)
  have au:=aV.1
  have:=(bq.put (n+k) (1+(nv bs a.i:Int)%3) (⟨#[108,101,116,32]⟩++⟨(nmB (n+k)).toArray⟩++⟨#[32,61,32]⟩++x++⟨#[59]⟩++g) j (z:=64100) (by
   have:=yj (n+k)
   simp only[yaq,gl,yap,List.length_nil]
   omega))
  rw[show L+k+1=L+(k+1) by omega,show cb+k*64100+64100=cb+(k+1)*64100 by omega]at this
  exact⟨_,this,x,j,aV,rfl⟩) h
theorem Qd(hb:∀i,nv bs i<256)(aW:g.size<=8){s}(h:Gs L cb s):∃f:Nat->Ss,f 0=s/\∀k,Gs L (cb+k*256100) (f k)/\R3 bs g k (f k) (f (k+1)):=
 N7 (G:=λk=>Gs L (cb+k*256100)) (λk a bq=>by
  obtain⟨x,j,aV⟩:=GK bq.2.1 hb 4 xab _ (nv3 (bs:=bs) a.i) (ni bs a.i)
  have au:=aV.1
  exact⟨⟨a.e,a.o++(⟨#[111,117,116,32]⟩++x++⟨#[59]⟩++g),j⟩,⟨bq.1,bq.2.1,by
   have:=bq.2.2
   simp only[yaq,gl,yap,List.length_nil]
   omega⟩,x,j,aV,rfl⟩) h
variable {bs:List Int}
def pt (l:List (List UInt8)):Array Value:=(l.map λx=>Value.string ⟨x.toArray⟩).toArray
def gapL:List (List UInt8):=[[32],[10],[32,32,35,32,61,32,59,10]]
def bodL:List (List UInt8):=[[112,42,112,32,43,32,49],[101,120,112,40,45,112,41],[112,32,47,32,40,49,32,43,32,112,42,112,41],[109,97,120,40,112,44,32,45,112,41],[103,114,97,100,40,115,117,109,40,112,42,112,42,112,41,44,32,112,41]]
theorem rK{W p}(k:Kept P (P+1) (w.alloc (.cells (pt l) p)) W)(aK:P<w.heap.size){m}(az:m<l.length):W.cell? ⟨w.heap.size,m,none⟩=some (.string ⟨(l.getD m []).toArray⟩):=by
 rw[k.cell (p:=⟨w.heap.size,m,none⟩) xac (by show ¬(P<=w.heap.size/\w.heap.size<P+1);omega),yau];simp[pt,List.getD_eq_getElem?_getD,List.getElem?_eq_getElem az]
theorem Ih{z}(h:∀x∈l,x.length<=z)(m):(⟨(l.getD m []).toArray⟩:ByteArray).size<=z:=by
 rw[gl,yah];cases e:l[m]? with
 |none=>exact Nat.zero_le _
 |some x=>exact h x (List.mem_of_getElem? e)
def SrO (w:World)(P n cap:Nat)(a:Option Addr)(bs:List Int)(j:Nat)(t:List UInt8)(e:Ending)(w':World):Prop:=∃g c,e=.returned (.slice (some ⟨g,0,none⟩) t.length c)/\t.length<=c/\YS w' (some ⟨g,0,none⟩) t.length (ir t)/\RdF w' P a n cap j bs/\Kept P (P+1) w w'
theorem Sw.start{W i env u}(Z:RdF W P a n cap i bs)(own:W.ownsRow w.heap.size 95 2 u env.length (flE env))(K:Kept P (P+1) w W)(bk:P<w.heap.size):V (Sw w P n cap W.heap.size a bs i env u (W.alloc (.cells (pt nmL) 9))):=
 have k:=ez 0 0 W (.cells (pt nmL) 9)
 ⟨Z.keep0 k,e8 own k,λ_ az=>rK (l:=nmL) (Kept.refl P _ _) (yaj bk K.size) az,by simp,K.size,bk,λe=>hR ((eI own e).2),K.trans (fw k)⟩
def rpX (gap:ByteArray)(c:Nat)(nl:List UInt8)(x:ByteArray):ByteArray:=⟨#[114,101,112,101,97,116,32]⟩++⟨(gF (c/5%4)).toArray⟩++⟨#[32]⟩++⟨nl.toArray⟩++⟨#[32,61,32]⟩++x++⟨#[59]⟩++gap
def hd0 (body gap:ByteArray):ByteArray:=⟨#[]⟩++(⟨#[100,101,102,32,102,40,112,41,32,61,32]⟩++body++⟨#[59]⟩++gap)
theorem Ez(W)(bp:List UInt8):(convert 9 22 (.string ⟨bp.toArray⟩)).run prog W=.ok (hH W.heap.size bp.length (grownCap W bp.length 0 5)) (Lib.bytesWorld W 5 ⟨bp.toArray⟩):=
 Lib.run_convert_string_bytes (P:=prog) W 9 22 5 ⟨bp.toArray⟩ underlying9 underlying22 underlying5
theorem WkM{P:Prop}(h:P:=by
  try dsimp only at e4
  go_upto_region 31 with (go_at_call 13;refine yai (Sw.next aw) ?_;rintro e ar ⟨rfl,aT⟩;clear aw;have aw:V _:=aT;clear aT);go_wp2_with fail;go_loopw [6,19] (λo t W=>∃k:Nat,k<=m3/\t=hI k/\o=.string (f3 k).o/\V (Sw w P n cap T a bs (f3 k).i (f3 k).e (.slice aE (f2 mm).e.length cE) W)) (λ_ t _=>m3-(intOf t).toNat)
  case atStart=>
   have ae:=H3.o.1;exact⟨0,Nat.zero_le _,rfl,by rw[ae],hU ae aw.o⟩
  case round=>
   obtain⟨k,O,rfl,rfl,aT⟩:=hrel;clear aw;by_cases aF:k<m3
   ·have bq:=(H3.o.2 k).1;have i:=(H3.o.2 (k+1)).1;obtain⟨x,v,bf,ay⟩:=(H3.o.2 k).2
    have z:((f3 k).o++(⟨#[111,117,116,32]⟩++x++⟨#[59]⟩++g)).size<=1000000:=by
     exact xhz
    have aZ:(⟨#[111,117,116,32]⟩++x++⟨#[59]⟩++g:ByteArray).size<=1000000:=by rw[yaq]at z;omega
    have ce:V _:=ay;have f:V _:=aT.o;clear bq i ay aT;generalize f3 k=s at*;have au:=hb s.i;repeat (rw[yaq]at z;refine sz2 z ?_;clear z;intro _ z)
    repeat (rw[yaq]at aZ;refine sz2 aZ ?_;clear aZ;intro _ aZ)
    go_wp2_with (first
     |(go_at_call 13;refine yai (Sw.next f) ?_;rintro e aH ⟨rfl,aT⟩;clear f;have f:V _:=aT;clear aT)
     |(go_at_call 58;have ap:=Sw.call f HL.o bf;simp only[ex3]at ap;(with_reducible refine yai ap ?_);clear ap;rintro e af ⟨rfl,aT,-⟩;clear f;have f:V _:=aT;clear aT))
    go_roundw
    case rel=>
     refine⟨k+1,by omega,by go_num,?_,?_⟩
     ·rw[ce.o]
     rw[ce.o];exact f.o
    case measure=>simp[intOf];omega
   have bY:k=m3:=xaa;have aw:V _:=aT.o;clear aT O aF;rw[bY]at aw⊢;clear bY k;subst hj;have K:¬((m3:Int)<m3):=xaa;have Z:=Ez wr t;have bQ:V _:=qN wr 5 t;have C:V _:=mX wr 5 ⟨t.toArray⟩;generalize Lib.bytesWorld wr 5 ⟨t.toArray⟩=bA at Z bQ C;have j:V _:=grownCap_ge wr t.length 0 5;generalize grownCap wr t.length 0 5=b3 at Z j;rcases ht.o with⟨a8,p⟩|⟨a8,p⟩
   ·rw[p]at Z;have b1:¬(4000<((f3 m3).o.size:Int)):=xaa;clear p;go_wp2;go_ret;exact⟨_,b3,rfl,j.o,bQ.o,aw.o.rd.keep0 C.o,aw.o.kp.trans (fw C.o)⟩
   rw[p]at Z;have b1:4000<((f3 m3).o.size:Int):=xaa;clear p;go_wp2;go_ret;exact⟨_,b3,rfl,j.o,bQ.o,aw.o.rd.keep0 C.o,aw.o.kp.trans (fw C.o)⟩):P:=h
theorem WkL{P:Prop}(h:P:=by
  have bD:V _:=jp _ _ _ _ _ _ _ HR.o;go_upto_region 11 with (go_at_call 13;refine yai bD.o ?_;rintro e ar ⟨rfl,C,b6,-⟩;have aw:V _:=Sw.start C (gM HO.o b6 λ_ e=>.inr (hR ((eI HO.o e).1))) (HK.o.trans b6) hP;clear C b6);clear bD HO HR HK;go_upto_region 12 with fail;change Code.wp _ _ _ _ (ar.alloc (.cells (pt nmL) 9));generalize ar.alloc (.cells (pt nmL) 9)=H at*;generalize ar.heap.size=T at*;go_wp2_with fail;go_loopw [5,6,11] (λu o t W=>∃k:Nat,k<=nn/\t=hI k/\o=.string (f1 k).o/\V (Sw w P n cap T a bs (f1 k).i (f1 k).e u W)) (λ_ _ t _=>nn-(intOf t).toNat)
  case atStart=>
   have e:=HE.o;have ae:=H1.o.1;subst e;exact⟨0,Nat.zero_le _,rfl,by rw[ae],hU ae aw.o⟩
  case round=>
   obtain⟨k,O,rfl,rfl,aT⟩:=hrel;clear aw HE;by_cases aF:k<nn
   ·have bq:=(H1.o.2 k).1;have i:=(H1.o.2 (k+1)).1;have ay:=(H1.o.2 k).2
    have z:((f1 k).o++inX bs g k (f1 k)).size<=1000000:=by
     exact xhz
    have aZ:(inX bs g k (f1 k)).size<=1000000:=by rw[yaq]at z;omega
    have a5:V _:=bq;have ce:V _:=ay;have f:V _:=aT.o;clear bq i ay aT;unfold R1 inX at ce;unfold inX at z aZ;generalize f1 k=s at*;have au:=hb s.i
    have HD:V (∀W:World,Calls prog 57 #[hI (1+(nv bs s.i:Int)%3)] W λe J=>e=.returned (eN (gF (1+nv bs s.i%3)))/\J=W):=λW=>by
     rw[show(1:Int)+(nv bs s.i:Int)%3=((1+nv bs s.i%3:Nat):Int) by omega]
     exact zj _ _ yad xaa W
    unfold eN at HD;generalize (⟨(gF (1+nv bs s.i%3)).toArray⟩:ByteArray)=I at HD ce z aZ;go_upto_region 16 with (go_at_call 13;refine yai (Sw.next f) ?_;rintro e aH ⟨rfl,aT⟩;clear f;have f:V _:=aT;have ag:=aT.tb k xaa;clear aT);change aH.cell? ⟨T,k,none⟩=some (.string ⟨(nmB k).toArray⟩)at ag;generalize F:(⟨(nmB k).toArray⟩:ByteArray)=j at ag ce z aZ;repeat (rw[yaq]at z;refine sz2 z ?_;clear z;intro _ z)
    repeat (rw[yaq]at aZ;refine sz2 aZ ?_;clear aZ;intro _ aZ)
    have aA:(k:Int)<7:=xaa;go_quiet ((go_at_call 57;exact Calls.quiet_of_same (HD.o _)))
    have bx:V (∀(m:Nat) (o:Obj),Sw w P n cap T a bs (ni bs s.i) s.e u5 ((aH.alloc o).drewN m)):=λm o=>(f.o.keep0 (ez 0 0 _ o)).keep0 (eM 0 0 _ m);have bl:V (∀m,((aH.alloc (.cells #[.string j,hI (1+(nv bs s.i:Int)%3)] 95)).drewN m).cell? ⟨aH.heap.size,0,none⟩=some (.string ⟨(nmB k).toArray⟩)/\((aH.alloc (.cells #[.string j,hI (1+(nv bs s.i:Int)%3)] 95)).drewN m).cell? ⟨aH.heap.size,1,none⟩=some (hI (1+(nv bs s.i:Int)%3))):=λm=>by rw[F];exact⟨by simp,by simp⟩
    have HL:V (s.e.length+1<=1000):=by have:=a5.o.1;show _<=_;omega
    go_wp2_with (at_builtin;refine ms _ rfl _ _ rfl w.heap.size u5 s.e rfl (bx.o _ _).own aH.heap.size (nmB k,1+(nv bs s.i:Int)%3) rfl (bl.o _).1 (bl.o _).2 HL.o (yan f.o.wl (Nat.le_of_lt (bx.o _ _).tl)) ?_;intro g9 ah n9 bo bS y ab b7;have p:V _:=(bx.o _ _).app _ bS y ab b7;clear bS y ab b7);exact xho
   have bY:k=nn:=xaa;have aw:V _:=aT.o;clear aT O aF;rw[bY]at aw⊢;clear bY k;go_upto_region 19 with (go_at_call 13;refine yai (Sw.next aw) ?_;rintro e ar ⟨rfl,aT⟩;clear aw;have aw:V _:=aT;clear aT);rw[em];go_wp2_with fail;go_loopw [5,6,14] (λu o t W=>∃k:Nat,k<=mm/\t=hI k/\o=.string (f2 k).o/\V (Sw w P n cap T a bs (f2 k).i (f2 k).e u W)) (λ_ _ t _=>mm-(intOf t).toNat)
   case atStart=>
    have ae:=H2.o.1;exact⟨0,Nat.zero_le _,rfl,by rw[ae],hU ae aw.o⟩
   case round=>
    obtain⟨k,O,rfl,rfl,aT⟩:=hrel;clear aw;by_cases aF:k<mm
    ·have bq:=(H2.o.2 k).1;have i:=(H2.o.2 (k+1)).1;obtain⟨x,v,bf,ay⟩:=(H2.o.2 k).2
     have z:((f2 k).o++(⟨#[108,101,116,32]⟩++⟨(nmB (nn+k)).toArray⟩++⟨#[32,61,32]⟩++x++⟨#[59]⟩++g)).size<=1000000:=by
      exact xhz
     have aZ:(⟨#[108,101,116,32]⟩++⟨(nmB (nn+k)).toArray⟩++⟨#[32,61,32]⟩++x++⟨#[59]⟩++g:ByteArray).size<=1000000:=by rw[yaq]at z;omega
     have a5:V _:=bq;have ce:V _:=ay;have f:V _:=aT.o;obtain⟨aE,cE,aJ⟩:=aT.o.form;subst aJ;clear bq i ay aT;generalize f2 k=s at*;have au:=hb s.i;have ai:(nn:Int)+k<7:=xaa;have K:(k:Int)<mm:=xaa;have HL:V (s.e.length<=100):=by have:=a5.o.1;show _<=_;omega
     go_upto_region 24 with (first
      |(go_at_call 13;refine yai (Sw.next f) ?_;rintro e aH ⟨rfl,aT⟩;clear f;have f:V _:=aT;clear aT)
      |(go_at_call 58;have ap:=Sw.call f HL.o bf;simp only[ex3]at ap;(with_reducible refine yai ap ?_);clear ap;rintro e af ⟨rfl,aT,-⟩;clear f;have f:V _:=aT;have ag:=aT.tb (nn+k) xaa;clear aT))
     change af.cell? ⟨T,nn+k,none⟩=some (.string ⟨(nmB (nn+k)).toArray⟩)at ag;generalize F:(⟨(nmB (nn+k)).toArray⟩:ByteArray)=j at ag ce z aZ;repeat (rw[yaq]at z;refine sz2 z ?_;clear z;intro _ z)
     repeat (rw[yaq]at aZ;refine sz2 aZ ?_;clear aZ;intro _ aZ)
     have bx:V (∀(o:Obj),Sw w P n cap T a bs v s.e _ (af.alloc o)):=λo=>f.o.keep0 (ez 0 0 _ o);have bl:V ((af.alloc (.cells #[.string j,hI (1+(nv bs s.i:Int)%3)] 95)).cell? ⟨af.heap.size,0,none⟩=some (.string ⟨(nmB (nn+k)).toArray⟩)/\(af.alloc (.cells #[.string j,hI (1+(nv bs s.i:Int)%3)] 95)).cell? ⟨af.heap.size,1,none⟩=some (hI (1+(nv bs s.i:Int)%3))):=by rw[F];exact⟨by simp,by simp⟩
     have N:V (s.e.length+1<=1000):=by have:=a5.o.1;show _<=_;omega
     go_wp2_with (at_builtin;refine ms _ rfl _ _ rfl w.heap.size (.slice aE s.e.length cE) s.e rfl (bx.o _).own af.heap.size (nmB (nn+k),1+(nv bs s.i:Int)%3) rfl bl.o.1 bl.o.2 N.o (yan f.o.wl (Nat.le_of_lt (bx.o _).tl)) ?_;intro g9 ah n9 bo bS y ab b7;have p:V _:=(bx.o _).app _ bS y ab b7;clear bS y ab b7);exact xho
    have bY:k=mm:=xaa;have aw:V _:=aT.o;clear aT O aF;rw[bY]at aw⊢;clear bY k;have K:¬((mm:Int)<mm):=xaa;have R:V ((f2 mm).o.size<=200000):=yan (H2.o.2 mm).1.2.2 xaa;have HL:V ((f2 mm).e.length<=100):=by have:=(H2.o.2 mm).1.1;show _<=_;omega
    rcases h3.o with⟨cD,ak⟩|⟨Q,cD,es,r,q,x,v,G,bf,aa,ak⟩
    ·rcases (by omega:mm=0\/(0<mm/\¬(c:Int)%5=1)) with Q|⟨Q,U⟩
     ·have dp:¬(0<(mm:Int)):=xaa;clear Q cD;exact xjh
     have dp:0<(mm:Int):=xaa;exact xjh
    have dp:0<(mm:Int):=xaa;obtain⟨S,cE,aJ,bh,aU⟩:=aw.o.last G;subst aJ;have Z:((f2 mm).e.length:Int)-1=(es.length:Int):=by rw[G,yak];simp
    have Y:(es.length:Int)<((f2 mm).e.length:Int):=xaa;clear G;have X:=HL.o;go_upto_region 28 with fail;have a7:V _:=aw.o.keep0 (ez 0 0 wr (.cells #[.string ⟨r.toArray⟩,hI q] 95))
    have bP:V (∀W',Kept P (P+1) (wr.alloc (.cells #[.string ⟨r.toArray⟩,hI q] 95)) W'->W'.cell? ⟨wr.heap.size,0,none⟩=some (.string ⟨r.toArray⟩)):=λW' k=>by
     have B:=aw.o.rd.lt
     rw[k.cell (p:=⟨wr.heap.size,0,none⟩) xac (by show ¬(P<=wr.heap.size/\wr.heap.size<P+1);omega)]
     simp
    have z:((f2 mm).o++rpX g c r x).size<=1000000:=by have:=R.o;rw[yaq];omega
    have aZ:(rpX g c r x).size<=1000000:=xaa
    have HD:V (∀W:World,Calls prog 57 #[hI ((c:Int)/5%4)] W λe J=>e=.returned (eN (gF (c/5%4)))/\J=W):=λW=>by
     rw[show(c:Int)/5%4=((c/5%4:Nat):Int) by omega]
     exact zj _ _ yad xaa W
    unfold rpX at z aZ ak;unfold eN at HD;generalize (⟨(gF (c/5%4)).toArray⟩:ByteArray)=I at HD ak z aZ;generalize (⟨r.toArray⟩:ByteArray)=j at bP a7 ak z aZ⊢;go_upto_region 29 with (go_at_call 58;have ap:=Sw.call a7 HL.o bf;simp only[ex3]at ap;(with_reducible refine yai ap ?_);clear ap;rintro e af ⟨rfl,aT,aI⟩;have aY:=bP.o af aI;clear aw a7;have aw:V _:=aT;clear aT aI);repeat (rw[yaq]at z;refine sz2 z ?_;clear z;intro _ z)
    repeat (rw[yaq]at aZ;refine sz2 aZ ?_;clear aZ;intro _ aZ)
    go_quiet ((go_at_call 57;exact Calls.quiet_of_same (HD.o _)))
    go_upto_region 30 with fail;subst ak;replace aw:V _:=aw.o.keep0 (eM 0 0 af nq);(try unfold hH at aw);(try unfold hH);generalize some (⟨S,0,none⟩:Addr)=aE at aw⊢;exact WkM):P:=h
theorem Qe(hb:∀i,nv bs i<256){i o c:Nat}(ai:nv bs (ni bs i)=c)(H:o<3)(bg:(nv bs i:Int)%3=(o:Int))(s:g.size<=8)(u:⟨(gapL.getD o []).toArray⟩=g)
  {ae}{F:Nat} (cf:(c:Int)/2%5=(F:Int)) (p:F<5) (G:⟨(bodL.getD F []).toArray⟩=ae) (B:ae.size<=30)
  {s0:Ss} (aj:((c:Int)%2=1/\V (s0=⟨[([102],0)],hd0 ae g,ni bs (ni bs i)⟩))\/((c:Int)%2=0/\V (s0=⟨[],⟨#[]⟩,ni bs (ni bs i)⟩)))
  {f1:Nat->Ss}{f m} (H1:V (f1 0=⟨s0.e,s0.o,ni bs s0.i⟩/\∀k,Gs (f+k) (m+k*100) (f1 k)/\R1 bs g k (f1 k) (f1 (k+1)))) (J:f<=1) (S:m<=1000)
  {nn:Nat} (K:1+(nv bs (ni bs (ni bs i)):Int)%3=(nn:Int)) (_hn3:nn<=3)
  {f2:Nat->Ss}{L2 I} (H2:V (f2 0=⟨(f1 nn).e,(f1 nn).o,ni bs (f1 nn).i⟩/\∀k,Gs (L2+k) (I+k*64100) (f2 k)/\R2 bs g nn k (f2 k) (f2 (k+1)))) (Y:L2<=4) (X:I<=2000)
  {mm:Nat} (em:(nv bs (f1 nn).i:Int)%4=(mm:Int)) (_hm3:mm<=3)
  {bC} (h3:V (((mm=0\/¬(c:Int)%5=1)/\bC=f2 mm)\/(0<mm/\(c:Int)%5=1/\∃es r q x v,(f2 mm).e=es++[(r,q)]/\Dr (f2 mm).e bs (f2 mm).i 58 (ex3 q 2) 16000 x v/\(rpX g c r x).size<=100000/\bC=⟨(f2 mm).e,(f2 mm).o++rpX g c r x,v⟩)))
  {f3:Nat->Ss}{h N} (H3:V (f3 0=⟨bC.e,bC.o,ni bs bC.i⟩/\∀k,Gs h (N+k*256100) (f3 k)/\R3 bs g k (f3 k) (f3 (k+1)))) (_hL3:h<=10) (Z:N<=220000)
  {m3:Nat} (e4:1+(nv bs bC.i:Int)%3=(m3:Int)) (R:m3<=3)
  {t}{j} (hj:j=(f3 m3).i) (ht:V (((f3 m3).o.size<=4000/\⟨t.toArray⟩=(f3 m3).o)\/(4000<(f3 m3).o.size/\⟨t.toArray⟩=(f3 m3).o.extract 0 4000))) (C:RdF w P a n cap i bs):Calls prog 30 #[hG P] w (SrO w P n cap a bs j t):=by
 have hP:=C.lt;have O:(c:Int)<256:=hR (hb (ni bs i))
 have aw:V _:=C;clear C;go_enter func30,ntmps30;go_upto_region 2 with fail;change Code.wp _ _ _ _ (w.alloc (.cells (pt gapL) 9));have aK:V _:=aw.o.keep0 (ez 0 0 w (.cells (pt gapL) 9));have bD:V _:=jp _ _ _ _ _ _ _ aK.o;have bP:V (∀W,Kept P (P+1) (w.alloc (.cells (pt gapL) 9)) W->_):=λW k=>rK (l:=gapL) (m:=o) k hP H;have HK:V _:=ez P (P+1) w (.cells (pt gapL) 9);clear aw aK;generalize w.alloc (.cells (pt gapL) 9)=aD at*;rw[u]at bP;clear u;go_upto_region 5 with (go_at_call 13;refine yai bD.o ?_;rintro e W2 ⟨rfl,C,ao,-⟩;have aW:=bP.o W2 ao;have bN:V _:=HK.o.trans ao;have ad:V _:=jp _ _ _ _ _ _ _ C;clear C ao);clear aW bP bD HK;rw[ai]at ad;rcases aj with⟨c2,HE⟩|⟨c2,HE⟩
 ·go_upto_region 7 with (go_at_call 13;refine yai ad.o ?_;rintro e aT ⟨rfl,(aH:V _),aM,-⟩;have aV:V _:=bN.o.trans aM;have Q:=aH.o.lt;clear aM);clear ad bN;go_upto_region 8 with fail;change Code.wp _ _ _ _ (aT.alloc (.cells (pt bodL) 9));have au:=rK (l:=bodL) (m:=F) (Kept.refl P (P+1) (aT.alloc (.cells (pt bodL) 9))) Q p;rw[G]at au;have a6:V _:=aH.o.keep0 (ez 0 0 aT (.cells (pt bodL) 9));have bX:V _:=aV.o.trans (ez _ _ aT (.cells (pt bodL) 9));clear aH aV;generalize aT.alloc (.cells (pt bodL) 9)=b4 at*
  have z:(hd0 ae g).size<=1000:=by
   simp only[hd0,yaq,gl,yap,List.length_nil];omega
  unfold hd0 at z HE;have aZ:(⟨#[100,101,102,32,102,40,112,41,32,61,32]⟩++ae++⟨#[59]⟩++g:ByteArray).size<=1000000:=by rw[yaq]at z;omega
  replace z:=yan z (by decide:1000<=1000000);repeat (rw[yaq]at z;refine sz2 z ?_;clear z;intro _ z)
  repeat (rw[yaq]at aZ;refine sz2 aZ ?_;clear aZ;intro _ aZ)
  have bc:=ez 0 0 b4 (.cells #[.string ⟨#[102]⟩,hI 0] 95);have ei:V _:=a6.o.keep0 bc;have cp:V _:=bX.o.trans (fw bc);clear a6 bX;have U:w.heap.size<=(b4.alloc (.cells #[.string ⟨#[102]⟩,hI 0] 95)).heap.size:=cp.o.size;go_upto_region 10 with (at_builtin;refine ms _ rfl _ _ rfl w.heap.size iR [] rfl (yav _ _ _ _) b4.heap.size ([102],0) rfl xac xac xab U ?_;intro g9 ah n9 b1 bS y ab _;subst bS;have aI:Kept 0 0 _ b1:=⟨ab.os,ab.tape,ab.output,ab.size,λb hb _=>ab.block b hb (λe=>by cases e)⟩;have HO:V (b1.ownsRow w.heap.size 95 2 (hH g9 1 ah) ([([102],0)]:List (List UInt8×Int)).length (flE [([102],0)])):=y;have HR:V _:=ei.o.keep0 aI;have HK:V _:=cp.o.trans (fw aI);clear ab aI y);clear ei cp U z aZ;exact WkL
 go_upto_region 10 with (go_at_call 13;refine yai ad.o ?_;rintro e aT ⟨rfl,(HR:V _),aM,-⟩;have HK:V _:=bN.o.trans aM;clear aM);have HO:V (aT.ownsRow w.heap.size 95 2 (.slice none 0 0) ([]:List (List UInt8×Int)).length (flE [])):=yav aT w.heap.size 95 2;clear ad bN;exact WkL
end
section
open Go.RowKit Flt
variable {bs:List Int}
theorem Qf(hb:∀i,nv bs i<256)(i):∃(t:List UInt8) (j:Nat),t.length<=4000/\∀{w:World}{P n cap:Nat}{a:Option Addr},RdF w P a n cap i bs->Calls prog 30 #[hG P] w (SrO w P n cap a bs j t):=by
 obtain⟨o,H,bg⟩:∃k:Nat,k<3/\(nv bs i:Int)%3=(k:Int):=⟨nv bs i%3,by omega,by omega⟩
 obtain⟨c,ai⟩:∃c,nv bs (ni bs i)=c:=⟨_,rfl⟩
 have Y:=hb (ni bs i);rw[ai]at Y;obtain⟨F,p,cf⟩:∃k:Nat,k<5/\(c:Int)/2%5=(k:Int):=⟨c/2%5,by omega,by omega⟩
 have s:=Ih (l:=gapL) (z:=8) xab o;have B:=Ih (l:=bodL) (z:=30) xab F;generalize u:(⟨(gapL.getD o []).toArray⟩:ByteArray)=g at s;generalize G:(⟨(bodL.getD F []).toArray⟩:ByteArray)=ae at B
 obtain⟨s0,Q,aj,bY,y⟩:∃s0 L,(((c:Int)%2=1/\V (s0=⟨[([102],0)],hd0 ae g,ni bs (ni bs i)⟩))\/((c:Int)%2=0/\V (s0=⟨[],⟨#[]⟩,ni bs (ni bs i)⟩)))/\Gs L 1000 s0/\L<=1:=by
  rcases (by omega:(c:Int)%2=1\/(c:Int)%2=0) with h|h
  ·exact⟨_,1,.inl ⟨h,rfl⟩,⟨rfl,by show ∀x∈[(([102]:List UInt8),(0:Int))],x.1.length<=5;decide,by simp only[hd0,yaq,gl,yap,List.length_nil];omega⟩,by decide⟩
  exact⟨_,0,.inr ⟨h,rfl⟩,⟨rfl,(λ_ h=>by cases h),Nat.zero_le _⟩,by decide⟩
 obtain⟨f1,f⟩:=Qb (bs:=bs) s (s:=⟨s0.e,s0.o,ni bs s0.i⟩) bY;have J:s0.i=ni bs (ni bs i):=by rcases aj with h|h<;>rw[h.2.o]
 obtain⟨nn,cq,K⟩:∃n:Nat,n<=3/\1+(nv bs (ni bs (ni bs i)):Int)%3=(n:Int):=⟨1+nv bs (ni bs (ni bs i))%3,by omega,by omega⟩
 obtain⟨f2,e⟩:=Qc hb s (s:=⟨(f1 nn).e,(f1 nn).o,ni bs (f1 nn).i⟩) nn (f.2 nn).1;obtain⟨mm,l,em⟩:∃n:Nat,n<=3/\(nv bs (f1 nn).i:Int)%4=(n:Int):=⟨nv bs (f1 nn).i%4,by omega,by omega⟩
 have ag:=(e.2 mm).1
 obtain⟨bC,h3,aD⟩:∃bC:Ss,(((mm=0\/¬(c:Int)%5=1)/\bC=f2 mm)\/(0<mm/\(c:Int)%5=1/\∃es r q x v,(f2 mm).e=es++[(r,q)]/\Dr (f2 mm).e bs (f2 mm).i 58 (ex3 q 2) 16000 x v/\(rpX g c r x).size<=100000/\bC=⟨(f2 mm).e,(f2 mm).o++rpX g c r x,v⟩))/\Gs (Q+nn+mm) 220000 bC:=by
  by_cases h:mm=0\/¬(c:Int)%5=1
  ·exact⟨_,.inl ⟨h,rfl⟩,ag.1,ag.2.1,yan ag.2.2 xaa⟩
  obtain⟨m,rfl⟩:∃m,mm=m+1:=⟨mm-1,by omega⟩
  obtain⟨bL,b4,_,bl⟩:=(e.2 m).2;obtain⟨x,v,aV⟩:=GK ag.2.1 hb 2 xab _ (nv3 (bs:=bs) (f2 m).i) (f2 (m+1)).i
  have z:(rpX g c (nmB (nn+m)) x).size<=17000:=by
   have:=aV.1;have:=yj (nn+m);have:=jT (c/5%4);simp only[rpX,yaq,gl,yap,List.length_nil];omega
  exact⟨_,.inr ⟨by omega,by omega,_,_,_,x,v,by rw[bl],aV,by omega,rfl⟩,ag.1,ag.2.1,by have:=ag.2.2;rw[yaq];omega⟩
 obtain⟨f3,I⟩:=Qd hb s (s:=⟨bC.e,bC.o,ni bs bC.i⟩) aD;obtain⟨m3,R,e4⟩:∃n:Nat,n<=3/\1+(nv bs bC.i:Int)%3=(n:Int):=⟨1+nv bs bC.i%3,by omega,by omega⟩
 obtain⟨t,a8,ht⟩:∃t:List UInt8,t.length<=4000/\(((f3 m3).o.size<=4000/\⟨t.toArray⟩=(f3 m3).o)\/(4000<(f3 m3).o.size/\⟨t.toArray⟩=(f3 m3).o.extract 0 4000)):=by
  by_cases h:(f3 m3).o.size<=4000
  ·exact⟨(f3 m3).o.data.toList,h,.inl ⟨h,rfl⟩⟩
  exact⟨((f3 m3).o.extract 0 4000).data.toList,by show ByteArray.size _<=_;rw[ByteArray.size_extract];omega,.inr ⟨by omega,rfl⟩⟩
 exact⟨t,_,a8,λC=>Qe hb ai H bg s u cf p G B aj f y yad K cq e xaa xaa em l h3 I xaa yad e4 R rfl ht C⟩
