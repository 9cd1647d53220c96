import Derived.Test.YtkjahdegnkmejaaGreatP46
namespace Go.Proofs.Z
variable{Zp:Prop}
open Tryz Go.RowKit Flt
set_option maxRecDepth 1000000
set_option maxHeartbeats 0
section
attribute[local go_sem] eE eC eB
variable{ak a7 F:World}{Q:List Int}{A g n cap:Nat}
theorem xP(w a1 K a3 Y c1 ae c2 aa c3 ay ins af ba)(f:CS w a1 Y K ae a3 aa ins af ba)(aL:iJ ins af ba ay=false):
  Calls prog 9 #[jh a1 Y c1 K ae c2 a3 aa c3 ay] w λe O=>e=.returned (.slice none 0 0)/\Kept 0 0 w O:=by
 have bj:=eA 0 0 w (im a1 Y c1 K ae c2 a3 aa c3 ay);have b2:V _:=xO (w.alloc (im a1 Y c1 K ae c2 a3 aa c3 ay)) a1 K a3 Y c1 ae c2 aa c3 ay ins af ba (f.keep bj);rw[aL]at b2;clear f aL;go_enter func9,ntmps9;go_wp2_with (first|(go_at_call 7;refine yaj b2.o ?_;rintro e ak ⟨rfl,aC⟩)|fail);go_ret;exact⟨rfl,bj.trans aC⟩
theorem Hv{w0 w:World}{S cs xs X}(ai:cs.toList=xs.map (Value.int .i64))(hn:xs.length=n)(a9:w0.heap.size=X)(h:Kept 0 0 (w0.alloc (.cells cs 3)) w)(bn:Chg S w a7)(a5:¬S X):IS a7 X (X+1) (some ⟨X,0,none⟩) n xs:=by
 subst a9
 have aj:IS (w0.alloc (.cells cs 3)) w0.heap.size (w0.heap.size+1) (some ⟨w0.heap.size,0,none⟩) n xs:=⟨hn,.inr ⟨w0.heap.size,0,rfl,yad,yaf,by simp,λk J=>by
  rw[Nat.zero_add,yav,<-Array.getElem?_toList,ai,List.getElem?_map,yam xaa,yai,yam xaa]
  rfl⟩⟩
 exact(aj.keep h yaa).keepC bn (λg B N aw=>a5 (by have:g=w0.heap.size:=xaa;rw[<-this];exact aw))
theorem PG(w:World)(cs)(ys:List Int)(ai:cs.toList=ys.map (Value.int .u8)):∀j,j<ys.length->((w.alloc (.cells cs 5)).drew).cell? ((⟨w.heap.size,0,none⟩:Addr).add j)=some (.int .u8 (ys.getD j 0)):=lD w cs ys ai
theorem PH(w:World)(cs)(ys:List Int)(ai:cs.toList=ys.map (Value.int .u8))(o):∀j,j<ys.length->(((w.alloc (.cells cs 5)).alloc o).drew).cell? ((⟨w.heap.size,0,none⟩:Addr).add j)=some (.int .u8 (ys.getD j 0)):=λj hj=>by
 have h:=lD w cs ys ai j hj
 rw[il]at h⊢
 rw[((eA 0 0 (w.alloc (.cells cs 5)) o).trans (eD _)).cell (p:=⟨w.heap.size,0+j,none⟩) xac xaa]
 exact h
theorem PI(w:World)(cs)(ys:List Int)(ai:cs.toList=ys.map (Value.int .u8))(o):∀j,j<ys.length->(((w.alloc o).alloc (.cells cs 5)).drew).cell? ((⟨w.heap.size+1,0,none⟩:Addr).add j)=some (.int .u8 (ys.getD j 0)):=λj hj=>by
 have h:=lD (w.alloc o) cs ys ai j hj
 rw[show(w.alloc o).heap.size=w.heap.size+1 by simp]at h
 exact h
theorem xQ{aq u s}(f:SvI ak aq u Q)(a:AtT aq A 0 s)(b5:aq.heap.size=A+1)(G:∀g,u.ownBlock=some g->g<A)(k:Kept 0 0 aq F)(r:YB a7 ak.heap.size (ia g n cap) (Q++[s.op]))(d:Chg (λb=>u.ownBlock=some b) F a7)(o:u.ownBlock=some g\/A+1<=g):
  SvI ak a7 (ia g n cap) (Q++[s.op])/\AtT a7 A 0 s/\g≠A/\A<a7.heap.size:=by
 have B:=k.size;have N:=d.size;refine⟨f.next k r d,(a.keep xaa k yaa).keepC xaa d (λc=>i4 (G _ c)),?_,by omega⟩;rcases o with c|c
 ·have:=G _ c;omega
 omega
theorem zU{cA v f s}(h:SvI ak a7 (ia g n cap) Q/\AtT a7 A 0 s/\g≠A/\A<a7.heap.size)(k:Kept 0 0 a7 F)(r:YB cA ak.heap.size v f)(d:Chg (λb=>(ia g n cap).ownBlock=some b) F cA):SvI ak cA v f/\AtT cA A 0 s:=by
 obtain⟨B,N,h3,bp⟩:=h;have bU:=k.size;refine⟨B.next k r d,(N.keep bp k yaa).keepC xaa d (λc=>?_)⟩;simp[Value.ownBlock]at c;omega
theorem cZ.qew(h:Zp:=by
 exact qgk):Zp:=h
theorem cZ.qgl(h:Zp:=by
 clear aL ad be ah;go_enter func9,ntmps9;go_wp2_with fail;refine yaj b2.o ?_;rintro e ak ⟨rfl,aC⟩;have ao:V _:=(jt w (.slice a1 Y c1) (.slice K ae c2) (.slice a3 aa c3) (ih ay)).keep aC;have aO:V _:=CS.keep f (bj.trans aC);have HK:V _:=bj.trans aC;clear b2 bj aC f;have cG:V _:=HK.o.size;generalize w.heap.size=p at ao⊢;go_upto_region 4 with fail;exact qhg):Zp:=h
theorem cZ.qhh(h:Zp:=by
 generalize ak.alloc (.cells #[.int .u8 71,.int .u8 76] 5)=aK at u⊢;obtain⟨_,aU,ax,aF,bv⟩:=ao.o.keep u.o.k;go_wp2_with fail;clear aU ax aF bv;refine yaj (oT aK ak.heap.size _ [71,76] [(Y:Int)] _ 1 u.o.r rfl rfl xab (by intro y bK;simp at bK;omega) xab u.o.size) ?_;rintro e aM ⟨bc,rfl,U,ab,_⟩;have H3:V _:=SvI.next u.o (eA 0 0 _ _) U ab;clear U ab u;obtain⟨_,aU,ax,aF,bv⟩:=ao.o.keep H3.o.k;go_wp2_with fail;clear aU ax aF bv;refine yaj (pI aM ak.heap.size bc _ ins a1 Y c1 0 ak.heap.size H3.o.r (aO.o.i.keep H3.o.k yaa) (λg _ N h3=>i4 ((H3.o.r.blk h3).1)) HO.o.i (by simp[gm]) xaa H3.o.size) ?_;rintro e bx ⟨C,rfl,bZ,r,_⟩;have bA:V _:=SvI.next H3.o i3 bZ r;clear bZ r H3;obtain⟨_,aU,ax,aF,bv⟩:=ao.o.keep bA.o.k;go_wp2_with fail;clear aU ax aF bv;refine yaj (oT bx ak.heap.size C _ [(ae:Int)] _ 1 bA.o.r rfl rfl xab (by intro y bK;simp at bK;omega) (by simp only[yal,gI,yaq,List.length_nil];have:=HE.o;omega) bA.o.size) ?_;rintro e bz ⟨au,rfl,ct,l,_⟩;have c9:V _:=SvI.next bA.o (eA 0 0 _ _) ct l;clear ct l bA;obtain⟨P,hP⟩:∃P,P=[71,76]++[(Y:Int)].flatMap gm++ins.flatMap gm++[(ae:Int)].flatMap gm:=⟨_,rfl⟩
 rw[<-hP]at c9;have b1:V _:=hP
 have aQ:V (P.length<=100):=by
  show _<=_;rw[hP];simp only[yal,gI,yaq,List.length_nil];have:=HE.o;omega
 clear hP;obtain⟨_,aU,ax,aF,bv⟩:=ao.o.keep c9.o.k;go_wp2_with fail;clear aU ax aF bv;go_loopw [3,31] (λb i W=>∃k:Nat,k<=ae/\i=ih k/\V (SvI ak W b (P++(af.take k).flatMap lZ))) (λ_ i _=>ae-(intOf i).toNat)
 case atStart=>exact⟨0,yae,rfl,by rw[List.take_zero,List.flatMap_nil,List.append_nil];exact c9⟩
 case round=>
  obtain⟨k,J,rfl,X⟩:=hrel;clear c9;obtain⟨_,aU,ax,aF,bv⟩:=ao.o.keep X.o.k;by_cases aY:k<ae
  ·rcases (aO.o.keep X.o.k).s.at_ with z|⟨b4,an,rfl,aV,bg,bq,bB⟩
   ·omega
   have bf:=bB k aY;have aw:=HO.o.s k (jn HE.o.2.1 aY);have a6:=ar.o k;have bL:V _:=iO lZ af Ste.zero (jn HE.o.2.1 aY)
   have bb:V ((P++(af.take k).flatMap lZ).length<=100000):=by
    show _<=_;have B:=kB (af.take k);rw[List.length_take]at B;have N:=aQ.o;rw[yal];omega
   generalize af.getD k Ste.zero=s at bf aw a6 bL;obtain⟨a8,aJ,aP,bw,b3,cf,cz,ce⟩:=bf;obtain⟨Q,aj⟩:∃Q,Q=P++(af.take k).flatMap lZ:=⟨_,rfl⟩
   rw[<-aj]at X bb;have bQ:V _:=aj;have aN:V _:=aw.2;have co:=aw.1;have cD:V _:=a6;clear aj aw aV bg bq bB a6;have bj:=eA 0 0 wr s.box;have bM:V _:=ud wr s;have cg:V _:=X.o.keep bj;have b9:V ((wr.alloc s.box).heap.size=wr.heap.size+1):=by show _=_;simp
   have a9:V (∀g,u3.ownBlock=some g->_):=λg h=>(X.o.r.blk h).2;clear bj X;go_upto_region 10 with fail;clear a8 aJ aP bw b3 cf cz ce;generalize wr.alloc s.box=aq at bM cg b9⊢;generalize wr.heap.size=A at bM a9 b9⊢;have aA:IntKind.u8.wrap s.op=s.op:=by rw[IntKind.wrap_u8];omega
   have a8:=bM.o.c0;have aJ:aq.cell? ⟨A,1,none⟩=some (ih s.len):=bM.o.c1;have aP:aq.cell? ⟨A,2,none⟩=some (ih s.n):=bM.o.c2;have bw:aq.cell? ⟨A,3,none⟩=some (ih s.dst):=bM.o.c3;have b3:aq.cell? ⟨A,4,none⟩=some (ih s.a):=bM.o.c4;have cf:aq.cell? ⟨A,5,none⟩=some (ih s.b):=bM.o.c5;have cz:aq.cell? ⟨A,6,none⟩=some (ih s.c):=bM.o.c6
   go_region_held3 (λO=>O.cell? ⟨A,0,none⟩=some (ih s.op)/\O.cell? ⟨A,1,none⟩=some (ih s.len)/\O.cell? ⟨A,2,none⟩=some (ih s.n)/\O.cell? ⟨A,3,none⟩=some (ih s.dst)/\O.cell? ⟨A,4,none⟩=some (ih s.a)/\O.cell? ⟨A,5,none⟩=some (ih s.b)/\O.cell? ⟨A,6,none⟩=some (ih s.c)) (go_keep)
    (first
     |(refine nf _ rfl (.tmp 35) (.tmp 39) rfl ak.heap.size _ Q (by simp[Act.eval]) (cg.o.keep ((eA 0 0 aq (.cells #[.int .u8 s.op] 5)).trans (eD (aq.alloc (.cells #[.int .u8 s.op] 5))))).r ⟨aq.heap.size,0,none⟩ 1 1 [s.op] (by simp[Act.eval]) rfl (PG aq _ [s.op] rfl) xab (i4 bb.o) (by have:=cg.o.size;simp;omega) ?_;intro g9 cap9 n9 a7 R d ai aZ;clear R;have j:V _:=xQ cg.o bM.o b9.o a9.o ((eA 0 0 aq (.cells #[.int .u8 s.op] 5)).trans (eD (aq.alloc (.cells #[.int .u8 s.op] 5)))) d ai (by rcases aZ with h|h;exact .inl h;right;have:=b9.o;simp at h;omega);obtain⟨cd,bh,a5,bD,aR,aS,bd,bi⟩:=j.o.2.1;clear d ai aZ)
     |(refine nf _ rfl (.tmp 35) (.tmp 39) rfl ak.heap.size _ Q (by simp[Act.eval]) (cg.o.keep (((eA 0 0 aq (.cells #[.int .u8 s.op] 5)).trans (eA 0 0 (aq.alloc (.cells #[.int .u8 s.op] 5)) (.cells #[ih s.len,ih s.n,ih s.dst,ih s.a,ih s.b,ih s.c] 3))).trans (eD ((aq.alloc (.cells #[.int .u8 s.op] 5)).alloc (.cells #[ih s.len,ih s.n,ih s.dst,ih s.a,ih s.b,ih s.c] 3))))).r ⟨aq.heap.size,0,none⟩ 1 1 [s.op] (by simp[Act.eval]) rfl (PH aq _ [s.op] rfl _) xab (i4 bb.o) (by have:=cg.o.size;simp;omega) ?_;intro g9 cap9 n9 a7 R d ai aZ;clear R;have j:V _:=xQ cg.o bM.o b9.o a9.o (((eA 0 0 aq (.cells #[.int .u8 s.op] 5)).trans (eA 0 0 (aq.alloc (.cells #[.int .u8 s.op] 5)) (.cells #[ih s.len,ih s.n,ih s.dst,ih s.a,ih s.b,ih s.c] 3))).trans (eD ((aq.alloc (.cells #[.int .u8 s.op] 5)).alloc (.cells #[ih s.len,ih s.n,ih s.dst,ih s.a,ih s.b,ih s.c] 3)))) d ai (by rcases aZ with h|h;exact .inl h;right;have:=b9.o;simp at h;omega);have aI:V (IS a7 (aq.heap.size+1) (aq.heap.size+1+1) (some ⟨aq.heap.size+1,0,none⟩) 6 (fx s)):=Hv (w0:=aq.alloc (.cells #[.int .u8 s.op] 5)) (cs:=#[ih s.len,ih s.n,ih s.dst,ih s.a,ih s.b,ih s.c]) rfl rfl xac (eD _) ai (λc=>jj (a9.o _ c) b9.o);have bl:V (g9<A\/aq.heap.size+2<=g9):=(by rcases aZ with h|h;exact .inl (a9.o _ h);right;simp at h;omega);obtain⟨cd,bh,a5,bD,aR,aS,bd,bi⟩:=j.o.2.1;clear d ai aZ)
     |(refine nf _ rfl (.tmp 35) (.tmp 39) rfl ak.heap.size _ Q (by simp[Act.eval]) (cg.o.keep (((eA 0 0 aq (.cells #[ih s.len,ih s.n,ih s.dst,ih s.a,ih s.b,ih s.c] 3)).trans (eA 0 0 (aq.alloc (.cells #[ih s.len,ih s.n,ih s.dst,ih s.a,ih s.b,ih s.c] 3)) (.cells #[.int .u8 s.op] 5))).trans (eD ((aq.alloc (.cells #[ih s.len,ih s.n,ih s.dst,ih s.a,ih s.b,ih s.c] 3)).alloc (.cells #[.int .u8 s.op] 5))))).r ⟨aq.heap.size+1,0,none⟩ 1 1 [s.op] (by simp[Act.eval]) rfl (PI aq _ [s.op] rfl _) xab (i4 bb.o) (by have:=cg.o.size;simp;omega) ?_;intro g9 cap9 n9 a7 R d ai aZ;clear R;have j:V _:=xQ cg.o bM.o b9.o a9.o (((eA 0 0 aq (.cells #[ih s.len,ih s.n,ih s.dst,ih s.a,ih s.b,ih s.c] 3)).trans (eA 0 0 (aq.alloc (.cells #[ih s.len,ih s.n,ih s.dst,ih s.a,ih s.b,ih s.c] 3)) (.cells #[.int .u8 s.op] 5))).trans (eD ((aq.alloc (.cells #[ih s.len,ih s.n,ih s.dst,ih s.a,ih s.b,ih s.c] 3)).alloc (.cells #[.int .u8 s.op] 5)))) d ai (by rcases aZ with h|h;exact .inl h;right;have:=b9.o;simp at h;omega);have aI:V (IS a7 aq.heap.size (aq.heap.size+1) (some ⟨aq.heap.size,0,none⟩) 6 (fx s)):=Hv (w0:=aq) (cs:=#[ih s.len,ih s.n,ih s.dst,ih s.a,ih s.b,ih s.c]) rfl rfl rfl ((eA 0 0 _ _).trans (eD _)) ai (λc=>jj (a9.o _ c) b9.o);have bl:V (g9<A\/aq.heap.size+2<=g9):=(by rcases aZ with h|h;exact .inl (a9.o _ h);right;simp at h;omega);obtain⟨cd,bh,a5,bD,aR,aS,bd,bi⟩:=j.o.2.1;clear d ai aZ)
     |(have br:=aI.o;go_at_call 32;refine yaj (pI a7 ak.heap.size _ (Q++[s.op]) (fx s) _ 6 6 _ _ j.o.1.r aI.o (λg B N h3=>by have:=bl.o;have:=b9.o;simp[Value.ownBlock]at h3;omega) aN.o (by have:=bb.o;simp;omega) xab j.o.1.size) ?_;rintro e cA ⟨bk,rfl,aB,ap,_⟩;have am:V _:=zU j.o (Kept.refl 0 0 a7) aB ap;obtain⟨ag,m1,b6,m3,gs,bJ,bn,bp⟩:=am.o.2;clear aB ap)
     |(go_at_call 32;refine yaj (oT a7 ak.heap.size _ (Q++[s.op]) (fx s) _ 6 j.o.1.r rfl rfl xab aN.o (by have:=bb.o;simp;omega) j.o.1.size) ?_;rintro e cA ⟨bk,rfl,aB,ap,_⟩;have am:V _:=zU j.o (eA 0 0 a7 _) aB ap;obtain⟨ag,m1,b6,m3,gs,bJ,bn,bp⟩:=am.o.2;clear aB ap))
   all_goals
    clear cd bh a5 bD aR aS bd bi a8 aJ aP bw b3 cf cz j
    obtain⟨q,aG⟩:∃q,q=Q++[s.op]++(fx s).flatMap gm:=⟨_,rfl⟩
    have aH:V (SvI ak cA bk q):=jn aG am.o.1
    have bC:V (q.length<=200000):=by
     show _<=_
     rw[aG,yal,yal,gI];have:=bb.o;simp[fx];omega
    have bO:V (P++(af.take (k+1)).flatMap lZ=q++(if s.op=1 then iA (fb s.k) 8 else[])):=by
     show _=_
     rw[bL.o,aG,bQ.o]
     simp only[lZ,List.append_assoc]
    clear aG am
    cases t:(s.op==1)
    ·have bG:¬s.op=1:=by simpa using t
     rw[ip bG,List.append_nil]at bO
     rw[<-bO.o]at aH
     clear bG bO
     go_wp2_with fail
     go_roundw;exact⟨k+1,by omega,by go_num,aH⟩;simp[intOf];omega
    ·have bG:s.op=1:=by simpa using t
     rw[iv bG]at bO
     have a2:V _:=DM cA ak.heap.size bk q s.k cD.o aH.o.r (i4 bC.o) aH.o.size
     clear bG
     go_wp2_with fail
     refine yaj a2.o ?_
     rintro e cP ⟨bE,rfl,b7,e6,_⟩
     have x:V _:=SvI.next aH.o i3 b7 e6
     rw[<-bO.o]at x
     clear b7 e6 bO ag m1 b6 m3 gs bJ bn bp
     go_wp2_with fail
     go_roundw;exact⟨k+1,by omega,by go_num,x⟩;simp[intOf];omega
  obtain rfl:k=ae:=xaa;rw[yap (by rw[HE.o.2.1];exact yad)]at X;obtain⟨S,aW⟩:∃S,S=P++af.flatMap lZ:=⟨_,rfl⟩
  rw[<-aW]at X;have e0:V _:=aW
  have bm:V (S.length<=50000):=by
   show _<=_;rw[aW,yal];have:=kB af;have:=aQ.o;have:=HE.o;omega
  clear aW;go_wp2_with fail;clear aU ax aF bv;refine yaj (oT wr ak.heap.size u3 S [(aa:Int)] _ 1 X.o.r rfl rfl xab (by intro y bK;simp at bK;omega) (i4 bm.o) X.o.size) ?_;rintro e ch ⟨bu,rfl,ca,bV,_⟩;have cT:V _:=SvI.next X.o (eA 0 0 _ _) ca bV;clear ca bV X;obtain⟨I,aX⟩:∃I,I=S++[(aa:Int)].flatMap gm:=⟨_,rfl⟩
  rw[<-aX]at cT;have cH:V _:=aX
  have bo:V (I.length<=50002):=by
   show _<=_;rw[aX,yal,gI];have:=bm.o;simp;omega
  clear aX;obtain⟨_,aU,ax,aF,bv⟩:=ao.o.keep cT.o.k;go_wp2_with fail;clear aU ax aF bv;go_loopw [3,72] (λb i W=>∃m:Nat,m<=aa/\i=ih m/\V (SvI ak W b (I++(ba.take m).flatMap nd))) (λ_ i _=>aa-(intOf i).toNat)
  case atStart=>exact⟨0,yae,rfl,by rw[List.take_zero,List.flatMap_nil,List.append_nil];exact cT⟩
  case round=>
   obtain⟨m,aD,rfl,X⟩:=hrel;clear cT;obtain⟨_,aU,ax,aF,bv⟩:=ao.o.keep X.o.k;by_cases aY:m<aa
   ·rcases (aO.o.keep X.o.k).o.at_ with z|⟨b4,an,rfl,aV,bg,bq,bB⟩
    ·omega
    have bf:=bB m aY;have aw:=HO.o.o m (jn HE.o.2.2 aY);have bL:V _:=iO nd ba Spn.zero (jn HE.o.2.2 aY);exact qhm
   obtain rfl:m=aa:=xaa;rw[yap (by rw[HE.o.2.2];exact yad)]at X;obtain⟨al,a0⟩:∃al,al=I++ba.flatMap nd:=⟨_,rfl⟩
   rw[<-a0]at X;have cI:V _:=a0
   have a2:V (al.length<=60000):=by
    show _<=_;rw[a0,yal,kD];have:=bo.o;have:=HE.o;omega
   clear a0;have cS:=HO.o.p;go_wp2_with fail;clear aU ax aF bv;refine yaj (oT wr ak.heap.size u3 al [ay] _ 1 X.o.r rfl rfl xab (by intro y bK;simp at bK;omega) (i4 a2.o) X.o.size) ?_;rintro e b0 ⟨bF,rfl,b8,ev,_⟩;have bH:V _:=SvI.next X.o (eA 0 0 _ _) b8 ev
   have cM:V (al++[ay].flatMap gm=iQ ins af ba ay):=by
    show _=_;unfold iQ;rw[cI.o,cH.o,e0.o,b1.o,HE.o.1,HE.o.2.1,HE.o.2.2];simp only[List.flatMap_singleton]
   rw[cM.o]at bH;clear b8 ev X;go_wp2_with fail;go_ret;exact⟨_,rfl,gi bH.o.r cG.o,Kept.trans HK.o bH.o.k⟩):Zp:=h
theorem cZ.qhn(h:Zp:=by
 generalize ba.getD m Spn.zero=s at bf aw bL;obtain⟨a8,aJ⟩:=bf;obtain⟨⟨av,aT⟩,G,cB⟩:=aw;clear aj aV bg bq bB aU ax aF bv;have cg:V _:=X.o.keep (eA 0 0 wr s.box);have Z:V ((wr.alloc s.box).cell? ⟨wr.heap.size,0,none⟩=some (ih s.off)):=by show _=_;go_simp
 have bR:V ((wr.alloc s.box).cell? ⟨wr.heap.size,1,none⟩=some (ih s.len)):=by show _=_;go_simp
 clear X;go_upto_region 18 with fail;clear a8 aJ;generalize wr.alloc s.box=aq at cg Z bR⊢;generalize wr.heap.size=A at Z bR⊢;have a8:=Z.o;have aJ:=bR.o;go_wp2_with fail;clear a8 aJ;refine yaj (oT aq ak.heap.size u3 Q [s.off,s.len] _ 2 cg.o.r rfl rfl xab (by intro y bK;simp at bK;omega) (i4 az.o) cg.o.size) ?_;rintro e a7 ⟨d0,rfl,d,ai,_⟩;have x:V _:=SvI.next cg.o (eA 0 0 _ _) d ai
 have H:V (SvI ak a7 d0 (I++(ba.take (m+1)).flatMap nd)):=by
  have h:=x.o
  have e:I++(ba.take (m+1)).flatMap nd=Q++[s.off,s.len].flatMap gm:=by
   rw[bL.o,bQ.o];simp[nd]
  rw[e];exact h
 clear d ai x cg;exact xht):Zp:=h
open cZ in
theorem zV(w a1 K a3 Y c1 ae c2 aa c3 ay ins af ba)(f:CS w a1 Y K ae a3 aa ins af ba)(aL:iJ ins af ba ay=true):
  Calls prog 9 #[jh a1 Y c1 K ae c2 a3 aa c3 ay] w λe O=>∃v,e=.returned v/\YB O w.heap.size v (iQ ins af ba ay)/\Kept 0 0 w O:=by
 have HO:V _:=xN aL;have bj:=eA 0 0 w (im a1 Y c1 K ae c2 a3 aa c3 ay);have b2:V _:=xO (w.alloc (im a1 Y c1 K ae c2 a3 aa c3 ay)) a1 K a3 Y c1 ae c2 aa c3 ay ins af ba (f.keep bj);rw[aL]at b2;exact qev
def ph(ins:List Int)(ss:List Ste)(os:List Spn)(pk:Int):List Int:=if iJ ins ss os pk=true then iQ ins ss os pk else[]
theorem vE(b):∀k,∀x∈iA b k,0<=x/\x<256
 |0=>by simp[iA]
 |k+1=>by
  intro x aH
  rw[iA,List.mem_append]at aH
  rcases aH with h|h
  ·exact vE b k x h
  ·simp at h;omega
theorem nu{v}(h:0<=v/\v<65536):∀x∈gm v,0<=x/\x<256:=by
 intro x aH;simp[gm]at aH;omega
theorem sw{ins af ba ay}(h:SvOK ins af ba ay):∀x∈iQ ins af ba ay,0<=x/\x<256:=by
 have br:∀xs:List Int,(∀y∈xs,0<=y/\y<65536)->∀x∈xs.flatMap gm,0<=x/\x<256:=λxs aH x aD=>by
  obtain⟨y,B,N⟩:=List.mem_flatMap.1 aD
  exact nu (aH y B) x N
 have B:=h.li;have N:=h.ls;have h3:=h.lo;intro x aH;unfold iQ at aH;simp only[List.mem_append]at aH;rcases aH with ((((((aH|aH)|aH)|aH)|aH)|aH)|aH)|aH
 ·simp at aH;omega
 ·exact nu xaa x aH
 ·exact br ins h.i x aH
 ·exact nu xaa x aH
 ·obtain⟨s,aw,aD⟩:=List.mem_flatMap.1 aH;obtain⟨k,J,rfl⟩:=List.getElem_of_mem aw;have e:af.getD k Ste.zero=af[k]:=by rw[yai,yam J];rfl
  have bN:=h.s k J;rw[e]at bN;unfold lZ at aD;simp only[List.mem_append]at aD;rcases aD with (aD|aD)|aD
  ·simp at aD;omega
  ·exact br _ bN.2 x aD
  split at aD
  ·exact vE _ _ x aD
  cases aD
 ·exact nu xaa x aH
 ·obtain⟨s,aw,aD⟩:=List.mem_flatMap.1 aH;obtain⟨k,J,rfl⟩:=List.getElem_of_mem aw;have e:ba.getD k Spn.zero=ba[k]:=by rw[yai,yam J];rfl
  have bN:=h.o k J;rw[e]at bN;unfold nd at aD;simp only[List.mem_append]at aD;rcases aD with aD|aD
  ·exact nu bN.1 x aD
  exact nu bN.2 x aD
 exact nu h.p x aH
theorem Ot(ins af ba ay):∀x∈ph ins af ba ay,0<=x/\x<256:=by
 unfold ph;split
 ·rename_i h;exact sw (xN h)
 simp
theorem zW(w a1 K a3 Y c1 ae c2 aa c3 ay ins af ba)(f:CS w a1 Y K ae a3 aa ins af ba):
  Calls prog 9 #[jh a1 Y c1 K ae c2 a3 aa c3 ay] w λe O=>∃g a cap,e=.returned (.slice a (ph ins af ba ay).length cap)/\YZ O g a (ph ins af ba ay).length (ph ins af ba ay)/\(0<(ph ins af ba ay).length->w.heap.size<=g)/\Kept 0 0 w O:=by
 unfold ph;cases aL:iJ ins af ba ay
 ·rw[ip xac];exact(xP w a1 K a3 Y c1 ae c2 aa c3 ay ins af ba f aL).mono λe O ⟨B,N⟩=>⟨0,none,0,B,⟨rfl,.inl rfl⟩,λh=>by simp at h,N⟩
 rw[iv rfl]
 exact(zV w a1 K a3 Y c1 ae c2 aa c3 ay ins af ba f aL).mono λe O ⟨v,B,N,h3⟩=>by
  obtain⟨g,a,cap,rfl,bp,bU⟩:=N.yz
  exact⟨g,a,cap,B,bp,bU,h3⟩
end
section
def fe(bs:List Int)(p:Nat):Nat->Int
 |0=>0
 |n+1=>fe bs p n+bs.getD (p+n) 0*256 ^ n
def Bts(bs:List Int):Prop:=∀x∈bs,0<=x/\x<256
theorem ki{bs}(h:Bts bs)(p):∀n,0<=fe bs p n/\fe bs p n<256 ^ n
 |0=>by simp[fe]
 |n+1=>by
  have B:=ki h p n
  have N:=mf h (p+n)
  have h3:(0:Int)<256 ^ n:=Int.pow_pos xab
  rw[fe]
  have bp:bs.getD (p+n) 0*256 ^ n<=255*256 ^ n:=Int.mul_le_mul_of_nonneg_right xaa xaa
  have bU:0<=bs.getD (p+n) 0*256 ^ n:=Int.mul_nonneg N.1 xaa
  have bz:(256:Int) ^ (n+1)=256 ^ n*256:=Int.pow_succ _ _
  omega
theorem xR(bs p):fe bs p 1=bs.getD p 0:=by simp[fe]
theorem K2(bs p):fe bs p 2=bs.getD p 0+256*bs.getD (p+1) 0:=by simp[fe];omega
theorem K3{bs}(h:Bts bs)(p):0<=fe bs p 2/\fe bs p 2<65536:=by
 have:=ki h p 2;simpa using this
def jP(bs:List Int)(p:Nat)(i:Nat):Int:=fe bs (p+1+2*i) 2
def qF(bs:List Int)(p:Nat):Ste:=⟨fe bs p 1,jP bs p 0,jP bs p 1,jP bs p 2,jP bs p 3,jP bs p 4,jP bs p 5,if fe bs p 1=1 then (fe bs (p+13) 8).toNat else 0⟩
def iY(bs:List Int)(p:Nat):Nat:=if fe bs p 1=1 then 21 else 13
def gF(bs:List Int)(p:Nat):Nat->Nat
 |0=>p
 |k+1=>gF bs p k+iY bs (gF bs p k)
def jV(bs:List Int)(p:Nat)(k:Nat):List Ste:=(List.range k).map λi=>qF bs (gF bs p i)
def B5(bs:List Int)(p:Nat):Spn:=⟨fe bs p 2,fe bs (p+2) 2⟩
def i7(bs:List Int)(p:Nat)(k:Nat):List Spn:=(List.range k).map λi=>B5 bs (p+4*i)
def iP(bs:List Int)(p:Nat)(k:Nat):List Int:=(List.range k).map λi=>fe bs (p+2*i) 2
theorem oC(bs p k):jV bs p (k+1)=jV bs p k++[qF bs (gF bs p k)]:=by
 unfold jV;rw[List.range_succ,List.map_append];rfl
theorem rD(bs p k):i7 bs p (k+1)=i7 bs p k++[B5 bs (p+4*k)]:=by
 unfold i7;rw[List.range_succ,List.map_append];rfl
theorem rE(bs p k):iP bs p (k+1)=iP bs p k++[fe bs (p+2*k) 2]:=by
 unfold iP;rw[List.range_succ,List.map_append];rfl
theorem uf(bs p k):(jV bs p k).length=k:=by simp[jV]
theorem pJ(bs p k):(i7 bs p k).length=k:=by simp[i7]
theorem pK(bs p k):(iP bs p k).length=k:=by simp[iP]
theorem q8(bs p){k i}(h:i<k):(iP bs p k).getD i 0=fe bs (p+2*i) 2:=by
 unfold iP;exact xgb
theorem zX(bs p):∀k,p+13*k<=gF bs p k
 |0=>by simp[gF]
 |k+1=>by
  have:=zX bs p k
  rw[gF]
  unfold iY
  split<;>omega
theorem ug(bs p k):∀j,gF bs p k<=gF bs p (k+j)
 |0=>yad
 |j+1=>by
  have:=ug bs p k j
  rw[<-Nat.add_assoc,gF]
  omega
def n1L(bs:List Int):Nat:=(fe bs 2 2).toNat
def p1L(bs:List Int):Nat:=4+2*n1L bs
def n2L(bs:List Int):Nat:=(fe bs (p1L bs) 2).toNat
def p3L(bs:List Int):Nat:=gF bs (p1L bs+2) (n2L bs)
def n3L(bs:List Int):Nat:=(fe bs (p3L bs) 2).toNat
def p4L(bs:List Int):Nat:=p3L bs+2+4*n3L bs
def jW(bs:List Int):List Int:=iP bs 4 (n1L bs)
def ssL(bs:List Int):List Ste:=jV bs (p1L bs+2) (n2L bs)
def osL(bs:List Int):List Spn:=i7 bs (p3L bs+2) (n3L bs)
def pkL(bs:List Int):Int:=fe bs (p4L bs) 2
def lw(bs:List Int):Bool:=decide (p4L bs+2<=bs.length)
def kI(bs:List Int):Bool:=lw bs&&(ph (jW bs) (ssL bs) (osL bs) (pkL bs)==bs)
theorem uh(bs):p1L bs+2<=p3L bs:=by
 have:=zX bs (p1L bs+2) (n2L bs);unfold p3L;omega
def adv(n:Nat)(k:Nat):Option Nat->Option Nat
 |none=>none
 |some p=>if p+k<=n then some (p+k)else none
theorem xS(n a b s):adv n b (adv n a s)=adv n (a+b) s:=by
 cases s with
 |none=>rfl
 |some p=>
  simp only[adv];by_cases h:p+a<=n
  ·rw[iv h];simp only;by_cases N:p+a+b<=n
   ·rw[iv N,iv xaa];congr 1;omega
   rw[ip N,ip xaa]
  rw[ip h];simp only;rw[ip xaa]
theorem qG{n k q s}(h:adv n k s=some q):∃p,s=some p/\q=p+k/\p+k<=n:=by
 cases s with
 |none=>cases h
 |some p=>
  simp only[adv]at h;by_cases c:p+k<=n
  ·rw[iv c]at h;injection h with h;exact⟨p,rfl,h.symm,c⟩
  rw[ip c]at h;cases h
def ju(bs:List Int):Option Nat->Option Nat
 |none=>none
 |some p=>adv bs.length (iY bs p) (some p)
end
section
attribute[local go_sem] eE eC eB
variable{F:World}{A hi H p z:Nat}{S:Nat->Prop}{x:Int}{bs Z:List Int}{s:Option Nat}
structure YL(w:World)(hi:Nat)(a:Option Addr)(n:Nat)(xs:List Int):Prop where
 len:xs.length=n
 at_:n=0\/∃g off,a=some ⟨g,off,none⟩/\g<hi/\g<w.heap.size/\∀k,k<n->w.cell? ⟨g,off+k,none⟩=some (.int .u8 (xs.getD k 0))
theorem YL.keepC{w O n a xs}(f:YL w hi a n xs)(k:Chg S w O)(aN:∀g,g<hi->¬S g):YL O hi a n xs:=
 ⟨f.len,by
  rcases f.at_ with aj|⟨g,an,e,B,h3,bp⟩
  ·exact .inl aj
  ·exact .inr ⟨g,an,e,B,yak h3 k.size,λj hj=>by rw[k.cell (p:=⟨g,an+j,none⟩) h3 (aN g B)];exact bp j hj⟩⟩
structure RdL(W:World)(hi R:Nat)(bs:List Int)(p:Nat)(sh:Bool):Prop where
 ex:∃a c,W.cell? ⟨R,0,none⟩=some (.slice a (bs.length-p) c)/\YL W hi a (bs.length-p) (bs.drop p)/\bs.length-p<=c/\c<=9223372036854775807
 c1:W.cell? ⟨R,1,none⟩=some (.bool sh)
 f0:W.frozen? ⟨R,0,none⟩=false
 f1:W.frozen? ⟨R,1,none⟩=false
 lt:R<W.heap.size
 le:hi<=R
 pl:p<=bs.length
theorem RdL.keepC{W h}(f:RdL W hi H bs p h)(k:Chg S W F)(aN:∀g,g<hi->¬S g)(X:¬S H):RdL F hi H bs p h:=by
 have e:∀o,_:=λo=>k.cell (p:=⟨H,o,none⟩) f.lt X;have be:∀o,_:=λo=>k.frozen (p:=⟨H,o,none⟩) f.lt X;obtain⟨a,c,B,N,h3,bp⟩:=f.ex;exact⟨⟨a,c,jn e B,N.keepC k aN,h3,bp⟩,jn e f.c1,jn be f.f0,jn be f.f1,yak f.lt k.size,f.le,f.pl⟩
theorem re(bs:List Int)(p k):(bs.drop p).getD k 0=bs.getD (p+k) 0:=by
 rw[yai,List.getElem?_drop,<-yai]
theorem K4(h:Bts bs)(p k)(J:k<8):bits .or .u64 (fe bs p k) (bs.getD (p+k) 0*256 ^ k)=fe bs p (k+1):=by
 have B:=ki h p k;have N:=mf h (p+k);rw[show fe bs p (k+1)=fe bs p k+bs.getD (p+k) 0*256 ^ k from rfl];generalize fe bs p k=x at B⊢;generalize bs.getD (p+k) 0=y at N⊢;rcases (by omega:k=0\/k=1\/k=2\/k=3\/k=4\/k=5\/k=6\/k=7) with rfl|rfl|rfl|rfl|rfl|rfl|rfl|rfl
 ·simp at B;have e:x=0:=xaa;subst e;rw[Int.pow_zero,Int.mul_one];exact bits_join_low .u64 64 xab wraps_u64 0 0 y xaa xaa xaa xaa xaa xaa
 ·exact u64_or8 _ _ xaa xaa xaa xaa xaa
 ·exact u64_or16 _ _ xaa xaa xaa xaa xaa
 ·exact u64_or24 _ _ xaa xaa xaa xaa xaa
 ·exact u64_or32 _ _ xaa xaa xaa xaa xaa
 ·exact u64_or40 _ _ xaa xaa xaa xaa xaa
 ·exact u64_or48 _ _ xaa xaa xaa xaa xaa
 exact u64_or56 _ _ xaa xaa xaa xaa xaa
theorem Hw(h:Bts bs)(p k)(J:k<8):bits .or .u64 (fe bs p k) (IntKind.u64.wrap (bs.getD (p+k) 0*2 ^ (8*k)))=fe bs p (k+1):=by
 have N:=mf h (p+k);have e:(2:Int) ^ (8*k)=256 ^ k:=jL Int.pow_mul
 rw[e]
 have h3:IntKind.u64.wrap (bs.getD (p+k) 0*256 ^ k)=bs.getD (p+k) 0*256 ^ k:=by
  refine u64_wrap_id _ (Int.mul_nonneg N.1 (Int.le_of_lt (Int.pow_pos xab))) ?_;rcases (by omega:k=0\/k=1\/k=2\/k=3\/k=4\/k=5\/k=6\/k=7) with rfl|rfl|rfl|rfl|rfl|rfl|rfl|rfl<;>omega
 rw[h3];exact K4 h p k J
theorem vF(W hi H bs p d h)(f:RdL W hi H bs p h)(aZ:Bts bs)(B:1<=d)(Q:d<=8)(aA:p+d<=bs.length):
  Calls prog 18 #[ge H,ih (d:Nat)] W λe O=>e=.returned (.int .u64 (fe bs p d))/\RdL O hi H bs (p+d) h/\Chg (λb=>b=H) W O:=by
 obtain⟨a,c,bB,a8,be,ah⟩:=f.ex;rcases a8.at_ with z|⟨g,an,rfl,aV,bg,bq⟩
 ·omega
 have b9:V _:=bq;have aO:V _:=f;have HO:V (∀k,k<d->_):=λk J=>Hw aZ p k xaa;have bv:V _:=λk=>mf aZ (p+k);have bu:V (∀k,_):=λk=>ki aZ p k;have bT:=f.f0;generalize hn:bs.length-p=n at bB be b9;have d0:d<=n:=xaa;have HE:V (bs.length-p=n/\p+d<=bs.length):=⟨hn,aA⟩
 clear f bq a8 aZ hn aA;go_enter func18,ntmps18;go_wp2_with fail;go_loopw [5,18] (λx i F=>∃k:Nat,k<=d/\i=ih k/\x=.int .u64 (fe bs p k)/\F=W) (λ_ i _=>d-(intOf i).toNat)
 case atStart=>exact⟨0,yae,rfl,rfl,rfl⟩
 case round=>
  obtain⟨k,J,rfl,rfl,rfl⟩:=hrel;by_cases aY:k<d
  ·have c1:=b9.o k xaa;rw[re]at c1;have aR:=HO.o k aY;have bK:=bv.o k;have aH:=bu.o k;generalize bs.getD (p+k) 0=y at c1 aR bK;obtain⟨l,am⟩:∃l,l=fe bs p (k+1):=⟨_,rfl⟩
   rw[<-am]at aR;generalize fe bs p k=x at aR aH⊢;have m:V _:=aR;have q:V _:=am;clear aR am;go_wp2_with fail;exact⟨⟨k+1,by omega,by go_num,by rw[m.o,q.o],trivial⟩,by simp[intOf];omega⟩
  obtain rfl:k=d:=xaa;obtain⟨x,aH⟩:∃x,x=fe bs p k:=⟨_,rfl⟩
  rw[<-aH];have bA:V _:=aH;clear aH;by_cases cG:c=k
  ·have v:n=k:=xaa
   have r:V (RdL (wr.setCell ⟨H,0,none⟩ (.slice (some ⟨g,an,none⟩) 0 0)) hi H bs (p+k) h/\Chg (λb=>b=H) wr (wr.setCell ⟨H,0,none⟩ (.slice (some ⟨g,an,none⟩) 0 0))):=by
    have br:=aO.o;have ay:=HE.o;have bL:bs.length-(p+k)=0:=xaa;refine⟨⟨⟨some ⟨g,an,none⟩,0,?_,⟨by rw[List.length_drop],.inl bL⟩,by omega,by omega⟩,?_,by simp[br.f0],by simp[br.f1],by simpa using br.lt,br.le,by omega⟩,fh _ _ _ _ rfl⟩
    ·rw[bL];exact fc _ _ _ _ _ bB
    rw[eG _ _ _ _ _ _ (.inr xaa)];exact br.c1
   subst cG;subst v;exact xio
  have r:V (RdL (wr.setCell ⟨H,0,none⟩ (.slice (some ⟨g,an+k,none⟩) (n-k) (c-k))) hi H bs (p+k) h/\Chg (λb=>b=H) wr (wr.setCell ⟨H,0,none⟩ (.slice (some ⟨g,an+k,none⟩) (n-k) (c-k)))):=by
   have br:=aO.o;have ay:=HE.o;have al:g≠H:=i4 br.le
   have bL:bs.length-(p+k)=n-k:=xaa;refine⟨⟨⟨some ⟨g,an+k,none⟩,c-k,?_,⟨by rw[List.length_drop],?_⟩,by omega,by omega⟩,?_,by simp[br.f0],by simp[br.f1],by simpa using br.lt,br.le,by omega⟩,fh _ _ _ _ rfl⟩
   ·rw[bL];exact fc _ _ _ _ _ bB
   ·refine .inr ⟨g,an+k,rfl,aV,by simpa using bg,λj hj=>?_⟩;rw[eG _ _ _ _ _ _ (.inl (λe=>al e.symm)),re];have:=b9.o (k+j) xaa;rw[re]at this;rw[Nat.add_assoc,this,Nat.add_assoc]
   rw[eG _ _ _ _ _ _ (.inr xaa)];exact br.c1
  exact xio
theorem vG(W hi H bs p d h)(f:RdL W hi H bs p h)(aA:¬p+d<=bs.length):
  Calls prog 18 #[ge H,ih (d:Nat)] W λe O=>e=.returned (.int .u64 0)/\RdL O hi H bs p true/\Chg (λb=>b=H) W O:=by
 obtain⟨a,c,bB,a8,be,ah⟩:=f.ex;have f1:=f.f1;have c1:=f.c1;have aY:bs.length-p<d:=i4 f.pl
 have R1:V (RdL (W.setCell ⟨H,1,none⟩ (.bool true)) hi H bs p true/\Chg (λb=>b=H) W (W.setCell ⟨H,1,none⟩ (.bool true))):=by
  refine⟨⟨⟨a,c,?_,?_,be,ah⟩,fc _ _ _ _ _ c1,by simp[f.f0],by simp[f.f1],by simpa using f.lt,f.le,f.pl⟩,fh _ _ _ _ rfl⟩
  ·rw[eG _ _ _ _ _ _ (.inr xaa)];exact bB
  exact a8.keepC (fh (S:=λb=>b=H) W H 1 (.bool true) rfl) (λg az e=>i4 f.le)
 generalize bs.length-p=n at bB aY;clear f a8 be ah aA;go_enter func18,ntmps18;go_wp2_with fail;go_ret;exact⟨rfl,R1.o⟩
structure RdS(W:World)(hi R:Nat)(bs:List Int)(s:Option Nat):Prop where
 good:∀p,s=some p->RdL W hi R bs p false
 bad:s=none->∃p,RdL W hi R bs p true
theorem RdS.of{W}(h:RdL W hi H bs p false):RdS W hi H bs (some p):=⟨λ_ e=>(by cases e;exact h),λe=>(by cases e)⟩
theorem RdS.off{W}(h:RdL W hi H bs p true):RdS W hi H bs none:=⟨λ_ e=>(by cases e),λ_=>⟨p,h⟩⟩
theorem RdS.keepC{W}(f:RdS W hi H bs s)(k:Chg S W F)(aN:∀g,g<hi->¬S g)(X:¬S H):RdS F hi H bs s:=
 ⟨λp e=>(f.good p e).keepC k aN X,λe=>by obtain⟨p,h⟩:=f.bad e;exact⟨p,h.keepC k aN X⟩⟩
theorem RdS.lt{W}(f:RdS W hi H bs s):H<W.heap.size/\hi<=H:=by
 cases s with
 |some p=>exact⟨(f.good p rfl).lt,(f.good p rfl).le⟩
 |none=>obtain⟨p,h⟩:=f.bad rfl;exact⟨h.lt,h.le⟩
theorem RdS.short{W}(f:RdS W hi H bs s):W.cell? ⟨H,1,none⟩=some (.bool s.isNone):=by
 cases s with
 |some p=>exact(f.good p rfl).c1
 |none=>obtain⟨p,h⟩:=f.bad rfl;exact h.c1
theorem qH(W hi H bs s d)(f:RdS W hi H bs s)(aZ:Bts bs)(B:1<=d)(Q:d<=8):
  Calls prog 18 #[ge H,ih (d:Nat)] W λe O=>∃x:Int,e=.returned (.int .u64 x)/\(0<=x/\x<256 ^ d)/\RdS O hi H bs (adv bs.length d s)/\(∀p,s=some p->p+d<=bs.length->x=fe bs p d)/\Chg (λb=>b=H) W O:=by
 have b5:(0:Int)<256 ^ d:=Int.pow_pos xab;cases s with
 |some p=>
  by_cases aA:p+d<=bs.length
  ·refine(vF W hi H bs p d false (f.good p rfl) aZ B Q aA).mono λe O ⟨ax,aF,bv⟩=>⟨_,ax,ki aZ p d,?_,λu a2 _=>(by cases a2;rfl),bv⟩
   simp only[adv];rw[iv aA];exact RdS.of aF
  refine(vG W hi H bs p d false (f.good p rfl) aA).mono λe O ⟨ax,aF,bv⟩=>⟨_,ax,⟨by omega,b5⟩,?_,λu a2 h=>(by cases a2;exact absurd h aA),bv⟩
  simp only[adv];rw[ip aA];exact RdS.off aF
 |none=>
  obtain⟨p,f⟩:=f.bad rfl;by_cases aA:p+d<=bs.length
  ·exact(vF W hi H bs p d true f aZ B Q aA).mono λe O ⟨ax,aF,bv⟩=>⟨_,ax,ki aZ p d,RdS.off aF,λu a2 _=>(by cases a2),bv⟩
  exact(vG W hi H bs p d true f aA).mono λe O ⟨ax,aF,bv⟩=>⟨_,ax,⟨by omega,b5⟩,RdS.off aF,λu a2 _=>(by cases a2),bv⟩
theorem mx(W hi H bs s)(f:RdS W hi H bs s)(aZ:Bts bs):
  Calls prog 20 #[ge H] W λe O=>∃x:Int,e=.returned (ih x)/\(0<=x/\x<65536)/\RdS O hi H bs (adv bs.length 2 s)/\(∀p,s=some p->p+2<=bs.length->x=fe bs p 2)/\Chg (λb=>b=H) W O:=by
 have bu:V _:=qH W hi H bs s 2 f aZ xab xab;clear f aZ;go_enter func20,ntmps20;go_wp2_with fail;refine yaj bu.o ?_;rintro e ak ⟨x,rfl,⟨B,N⟩,(R1:V _),(R2:V _),(R3:V _)⟩;have da:x<65536:=by simpa using N
 clear N;go_wp2_with fail;go_ret;exact⟨x,rfl,⟨B,da⟩,R1.o,R2.o,R3.o⟩
theorem Ou(W hi H bs s)(f:RdS W hi H bs s)(aZ:Bts bs):
  Calls prog 24 #[ge H] W λe O=>∃x:Spn,e=.returned x.agg/\RdS O hi H bs (adv bs.length 4 s)/\(∀p,s=some p->p+4<=bs.length->x=B5 bs p)/\Chg (λb=>b=H) W O:=by
 have bF:=eA 0 0 W (.cells #[ih 0,ih 0] 56);have w:V _:=f.lt.1;have aO:V _:=f.keepC (bF.chg (S:=λ_=>False)) (λ_ _ h=>h) (λh=>h);have HK:V (Chg (λb=>b=H) W (W.alloc (.cells #[ih 0,ih 0] 56))):=bF.chg;have ao:V _:=aZ;have d:V ((W.alloc (.cells #[ih 0,ih 0] 56)).cell? ⟨W.heap.size,0,none⟩=some (ih 0)/\(W.alloc (.cells #[ih 0,ih 0] 56)).cell? ⟨W.heap.size,1,none⟩=some (ih 0)/\(∀o,(W.alloc (.cells #[ih 0,ih 0] 56)).frozen? ⟨W.heap.size,o,none⟩=false)):=⟨by go_simp,by go_simp,λo=>by simp⟩
 clear f aZ bF;go_enter func24,ntmps24;go_wp2_with fail;have l:V (H≠W.heap.size/\W.heap.size<(W.alloc (.cells #[ih 0,ih 0] 56)).heap.size):=by refine⟨?_,by simp⟩;have:=w.o;omega
 generalize W.alloc (.cells #[ih 0,ih 0] 56)=aK at aO HK d l⊢;generalize bl:W.heap.size=A at d l⊢;have bM:V _:=bl;clear bl;refine yaj (mx aK hi H bs s aO.o ao.o) ?_;rintro e ak ⟨x,rfl,a6,(cu:V _),(m:V _),(X:V _)⟩;have bN:V _:=Chg.andThen HK.o X.o;clear aO HK;go_wp2_with fail;refine yaj (mx ak hi H bs _ cu.o ao.o) ?_;rintro e aM ⟨y,rfl,U,G,bc,ab⟩;rw[xS]at G;have Q:V _:=G;have k:V _:=bc;have bZ:V _:=Chg.andThen bN.o ab;have bI:=Chg.andThen X.o ab;have c0:aM.cell? ⟨A,0,none⟩=some (ih 0):=by rw[bI.cell (p:=⟨A,0,none⟩) l.o.2 (λe=>l.o.1 e.symm)];exact d.o.1
 have c1:aM.cell? ⟨A,1,none⟩=some (ih 0):=by rw[bI.cell (p:=⟨A,1,none⟩) l.o.2 (λe=>l.o.1 e.symm)];exact d.o.2.1
 have bT:∀o,aM.frozen? ⟨A,o,none⟩=false:=λo=>by rw[bI.frozen (p:=⟨A,o,none⟩) l.o.2 (λe=>l.o.1 e.symm)];exact d.o.2.2 o
 have HD:V _:=bI;clear G bc ab bI bN cu X d;have aR:=bT 0;have ca:=bT 1;have t:=Q.o.lt;have C:H<A:=jj w.o bM.o
 have aL:∀u v,Chg (λb=>b=A) aM ((aM.setCell ⟨A,0,none⟩ u).setCell ⟨A,1,none⟩ v):=λu v=>Chg.andThen (fh (S:=λb=>b=A) _ A 0 u rfl) (fh _ A 1 v rfl);have r:V (RdS ((aM.setCell ⟨A,0,none⟩ (ih x)).setCell ⟨A,1,none⟩ (ih y)) hi H bs (adv bs.length (2+2) s)):=Q.o.keepC (aL _ _) (λg az e=>by omega) (λe=>by omega);have Y:V (Chg (λb=>b=H) W ((aM.setCell ⟨A,0,none⟩ (ih x)).setCell ⟨A,1,none⟩ (ih y))):=Chg.new bZ.o (aL _ _) (λi hi e=>i4 bM.o)
 have aa:V (∀p,s=some p->p+4<=bs.length->(⟨x,y⟩:Spn)=B5 bs p):=λp aA ag=>by
  subst aA
  have B:=m.o p rfl xaa
  have N:=k.o (p+2) (by simp only[adv];rw[iv xaa]) xaa
  rw[B,N];rfl
 have j:V (((aM.setCell ⟨A,0,none⟩ (ih x)).setCell ⟨A,1,none⟩ (ih y)).cell? ⟨A,0,none⟩=some (ih x)):=by
  show _=_;rw[eG _ _ _ _ _ _ (.inr xaa)];exact fc _ _ _ _ _ c0
 have q:V (((aM.setCell ⟨A,0,none⟩ (ih x)).setCell ⟨A,1,none⟩ (ih y)).cell? ⟨A,1,none⟩=some (ih y)):=by
  exact fc _ _ _ _ _ (by rw[eG _ _ _ _ _ _ (.inr xaa)];exact c1)
 clear aL bT Q bZ m k t C;go_wp2_with fail;have a8:=j.o;have aJ:=q.o;refine yaz (v:=Spn.agg ⟨x,y⟩) (by simp[results,results24,go_sem,a8,aJ]) rfl ⟨⟨x,y⟩,rfl,r.o,aa.o,Y.o⟩
def l8(x:Int)(fs:List Int)(z:Nat):Ste:=⟨x,fs.getD 0 0,fs.getD 1 0,fs.getD 2 0,fs.getD 3 0,fs.getD 4 0,fs.getD 5 0,z⟩
structure StB(W:World)(A:Nat)(x:Int)(fs:List Int)(z:Nat):Prop where
 len:fs.length=6
 c0:W.cell? ⟨A,0,none⟩=some (.int .i64 x)
 cf:∀i,i<6->W.cell? ⟨A,i+1,none⟩=some (.int .i64 (fs.getD i 0))
 c7:W.cell? ⟨A,7,none⟩=some (.float .f64 z)
 fr:∀o,W.frozen? ⟨A,o,none⟩=false
 lt:A<W.heap.size
theorem StB.at_{W}(f:StB W A x Z z):AtT W A 0 (l8 x Z z):=
 ⟨f.c0,f.cf 0 xaa,f.cf 1 xaa,f.cf 2 xaa,f.cf 3 xaa,f.cf 4 xaa,f.cf 5 xaa,f.c7⟩
theorem StB.keepC{W}(f:StB W A x Z z)(k:Chg S W F)(aN:¬S A):StB F A x Z z:=by
 have e:∀o,_:=λo=>k.cell (p:=⟨A,o,none⟩) f.lt aN;have be:∀o,_:=λo=>k.frozen (p:=⟨A,o,none⟩) f.lt aN;exact⟨f.len,jn e f.c0,λi hi=>by rw[e];exact f.cf i hi,jn e f.c7,λo=>by rw[be];exact f.fr o,yak f.lt k.size⟩
theorem StB.put{W A x Z z}(f:StB W A x Z z){k}(J:k<6)(y):StB (W.setCell ⟨A,k+1,none⟩ (ih y)) A x (Z.set k y) z where
 len:=by rw[List.length_set];exact f.len
 c0:=by rw[eG _ _ _ _ _ _ (.inr xaa)];exact f.c0
 cf:=λi hi=>by
  rw[yt Z 0 y k i (jn f.len J)]
  by_cases e:i=k
  ·subst e
   rw[iv rfl]
   exact fc _ _ _ _ _ (f.cf i hi)
  ·rw[ip e,eG _ _ _ _ _ _ (.inr xaa)]
   exact f.cf i hi
 c7:=by rw[eG _ _ _ _ _ _ (.inr xaa)];exact f.c7
 fr:=λo=>by simp[f.fr o]
 lt:=by simpa using f.lt
theorem StB.put7{W}(f:StB W A x Z z)(y):StB (W.setCell ⟨A,7,none⟩ (.float .f64 y)) A x Z y where
 len:=f.len
 c0:=by rw[eG _ _ _ _ _ _ (.inr xaa)];exact f.c0
 cf:=λi hi=>by rw[eG _ _ _ _ _ _ (.inr xaa)];exact f.cf i hi
 c7:=fc _ _ _ _ _ f.c7
 fr:=λo=>by simp[f.fr o]
 lt:=by simpa using f.lt
def Fds(bs:List Int)(s:Option Nat)(k:Nat)(fs:List Int):Prop:=∀p,s=some p->p+1+2*k<=bs.length->∀i,i<k->fs.getD i 0=jP bs p i
theorem Fds.put{bs s k Z}(f:Fds bs s k Z)(ag:Z.length=6)(J:k<6)(y)(bK:∀p,adv bs.length (1+2*k) s=some p->p+2<=bs.length->y=fe bs p 2):Fds bs s (k+1) (Z.set k y):=by
 intro p aA a6 i hi;rw[yt Z 0 y k i (jn ag J)];by_cases e:i=k
 ·rw[iv e,bK (p+1+2*k) (by subst aA;simp only[adv];rw[iv xaa];congr 1;omega) xaa,e];rfl
 rw[ip e];exact f p aA xaa i xaa
abbrev B6(w:World)(g:Nat)(v:Ste):World:=
 ((((((((w.setCell ⟨g,0,none⟩ (.int .i64 v.op)).setCell ⟨g,1,none⟩ (.int .i64 v.len)).setCell ⟨g,2,none⟩ (.int .i64 v.n)).setCell ⟨g,3,none⟩ (.int .i64 v.dst)).setCell ⟨g,4,none⟩ (.int .i64 v.a)).setCell ⟨g,5,none⟩ (.int .i64 v.b)).setCell ⟨g,6,none⟩ (.int .i64 v.c)).setCell ⟨g,7,none⟩ (.float .f64 v.k))
theorem zY(w g u v)(h:AtT w g 0 u):AtT (B6 w g v) g 0 v:=Kv w g 0 u v h
theorem vH(w g v):Chg (λb=>b=g) w (B6 w g v):=(DE w g 0 v).chg1 rfl
abbrev vI(x:Int):Obj:=.cells #[.int .i64 x,.int .i64 0,.int .i64 0,.int .i64 0,.int .i64 0,.int .i64 0,.int .i64 0,.float .f64 0] 43
theorem B7(w:World)(x):StB (w.alloc (vI x)) w.heap.size x [0,0,0,0,0,0] 0 where
 len:=rfl
 c0:=by go_simp
 cf:=λi hi=>by
  rw[yav]
  rcases (by omega:i=0\/i=1\/i=2\/i=3\/i=4\/i=5) with rfl|rfl|rfl|rfl|rfl|rfl<;>rfl
 c7:=by go_simp
 fr:=λo=>by simp
 lt:=by simp
abbrev K5(A:Nat):Obj:=.cells #[.pointer (some ⟨A,1,none⟩),.pointer (some ⟨A,2,none⟩),.pointer (some ⟨A,3,none⟩),.pointer (some ⟨A,4,none⟩),.pointer (some ⟨A,5,none⟩),.pointer (some ⟨A,6,none⟩)] 89
theorem K6(w:World)(A){i}(hi:i<6):(w.alloc (K5 A)).cell? ⟨w.heap.size,i,none⟩=some (.pointer (some ⟨A,i+1,none⟩)):=by
 rw[yav];rcases (by omega:i=0\/i=1\/i=2\/i=3\/i=4\/i=5) with rfl|rfl|rfl|rfl|rfl|rfl<;>rfl
theorem Ov(W hi H bs s)(f:RdS W hi H bs s)(aZ:Bts bs):
  Calls prog 22 #[ge H] W λe O=>∃x:Ste,e=.returned x.agg/\x.k<18446744073709551616/\RdS O hi H bs (ju bs s)/\(∀p,s=some p->p+iY bs p<=bs.length->x=qF bs p)/\Chg (λb=>b=H) W O:=by
 have bF:=eA 0 0 W (vI 0);have w:V _:=f.lt;have aO:V _:=f.keepC (bF.chg (S:=λ_=>False)) (λ_ _ h=>h) (λh=>h);have HK:V (Chg (λb=>b=H) W (W.alloc (vI 0))):=bF.chg;have bM:V _:=B7 W 0;have ao:V _:=aZ;clear f bF aZ;go_enter func22,ntmps22;go_wp2_with fail;generalize W.alloc (vI 0)=aK at aO HK bM⊢;generalize bl:W.heap.size=A at bM w⊢;have X:V _:=bl;clear bl;refine yaj (qH aK hi H bs s 1 aO.o ao.o xab xab) ?_;rintro e ak ⟨x,rfl,a6,(cu:V _),(m:V _),bk⟩;have aH:0<=x/\x<256:=by simpa using a6
 have bA:V _:=bM.o.keepC bk (i4 w.o);have bN:V _:=Chg.andThen HK.o bk;clear a6 bk aO HK bM;go_upto_region 2 with fail;have a9:=eA 0 0 ak (vI x);have Q:V _:=cu.o.keepC (a9.chg (S:=λ_=>False)) (λ_ _ h=>h) (λh=>h);have G:V _:=bA.o.keepC (a9.chg (S:=λ_=>False)) (λh=>h);have b7:V _:=B7 ak x;have bZ:V _:=Chg.andThen bN.o a9.chg;have cQ:V (A<ak.heap.size/\W.heap.size<=ak.heap.size):=⟨bA.o.lt,bN.o.size⟩
 clear a9 cu bA bN;generalize ak.alloc (vI x)=aM at Q G b7 bZ⊢;generalize ak.heap.size=S at b7 cQ⊢;go_wp2_with fail;have bS:=eA 0 0 aM (K5 S);have aw:V _:=Q.o.keepC (bS.chg (S:=λ_=>False)) (λ_ _ h=>h) (λh=>h);have j:V _:=G.o.keepC (bS.chg (S:=λ_=>False)) (λh=>h);have aG:V _:=b7.o.keepC (bS.chg (S:=λ_=>False)) (λh=>h);have cx:V (∀i,i<6->_):=λi hi=>K6 aM S hi;have b0:V _:=Chg.andThen bZ.o bS.chg;have B:V (S<aM.heap.size/\aM.heap.size<(aM.alloc (K5 S)).heap.size):=⟨b7.o.lt,by simp⟩
 clear bS Q G b7 bZ;generalize aM.alloc (K5 S)=bx at aw j aG cx b0 B⊢;generalize aM.heap.size=aB at cx B⊢;have d:V (H<A/\hi<=H/\A<S/\S<aB/\aB<bx.heap.size/\W.heap.size=A):=⟨w.o.1,w.o.2,cQ.o.1,B.o.1,B.o.2,X.o⟩
 clear B cQ w X;go_loopw [18] (λi F=>∃k:Nat,k<=6/\i=ih k/\V (RdS F hi H bs (adv bs.length (1+2*k) s))/\V (∃Z,StB F S x Z 0/\Fds bs s k Z)/\V (Chg (λb=>b=H\/b=S) bx F)) (λi _=>6-(intOf i).toNat)
 case atStart=>exact⟨0,yae,rfl,aw,⟨_,aG.o,λ_ _ _ i hi=>by omega⟩,(Kept.refl 0 0 bx).chg⟩
 case round=>
  obtain⟨k,J,rfl,a5,bh,bn⟩:=hrel;clear aw aG;by_cases aY:k<6
  ·have dl:wr.cell? ⟨aB,k,none⟩=some (.pointer (some ⟨S,k+1,none⟩)):=by
    rw[bn.o.cell (p:=⟨aB,k,none⟩) d.o.2.2.2.2.1 (by have:=d.o;show ¬(aB=H\/aB=S);omega)];exact cx.o k aY
   go_wp2_with fail;refine yaj (mx wr hi H bs _ a5.o ao.o) ?_;rintro e bz ⟨y,rfl,ct,ck,au,l⟩;obtain⟨Z,v,N⟩:=bh.o;have ab:=v.keepC l (by have:=d.o;show ¬(S=H);omega);have c5:=ab.cf k aY;have ar:=ab.fr (k+1);rw[xS]at ck;have u:=fh (S:=λb=>b=S) bz S (k+1) (ih y) rfl
   have R1:V (RdS (bz.setCell ⟨S,k+1,none⟩ (ih y)) hi H bs (adv bs.length (1+2*(k+1)) s)):=by
    have:=ck.keepC u (λg az e=>i4 d.o) (by have:=d.o;show ¬(H=S);omega);rw[show 1+2*(k+1)=1+2*k+2 by omega];exact this
   have R2:V (∃Z,StB (bz.setCell ⟨S,k+1,none⟩ (ih y)) S x Z 0/\Fds bs s (k+1) Z):=⟨_,ab.put aY y,N.put v.len aY y (λp aA ag=>au p aA ag)⟩
   have R3:V _:=Chg.andThen bn.o (Chg.andThen (l.mono λb _ h=>.inl h) (u.mono λb _ h=>.inr h));clear ct ck au l v ab N u a5 bh bn dl;go_wp2_with fail;go_roundw;exact⟨k+1,by omega,by go_num,R1,R2,R3⟩;simp[intOf];omega
  obtain rfl:k=6:=xaa;obtain⟨Z,(I:V _),(cP:V _)⟩:=bh.o;have a8:=I.o.c0;have ae:V _:=j.o.keepC bn.o (by have:=d.o;show ¬(A=H\/A=S);omega);have bm:V _:=Chg.new b0.o bn.o (λi hi h=>i4 d.o);clear bh j b0 bn;cases t:(x==1)
  ·have bG:¬x=1:=by simpa using t
   obtain⟨_,aJ,aP,bw,b3,cf,cz,ce⟩:=I.o.at_;simp only[l8]at aJ aP bw b3 cf cz ce;obtain⟨bK,a1,K,a3,a4,ba,cb,b9⟩:=ae.o.at_;simp only[l8]at bK a1 K a3 a4 ba cb b9;have al:=ae.o.fr;have aL:=vH wr A (l8 x Z 0);have bf:=zY wr A _ (l8 x Z 0) ae.o.at_
   have r:V (RdS (B6 wr A (l8 x Z 0)) hi H bs (ju bs s)):=by
    have h:=a5.o.keepC aL (λg az e=>i4 d.o) (by have:=d.o;show ¬(H=A);omega);cases s with
    |none=>exact h
    |some p=>
     have e:ju bs (some p)=adv bs.length (1+2*6) (some p):=by
      show adv bs.length (iY bs p) (some p)=_;by_cases aA:p+13<=bs.length
      ·have ca:=m.o p rfl xaa;unfold iY;rw[<-ca,ip bG]
      have P:13<=iY bs p:=by unfold iY;split<;>omega
      simp only[adv];rw[ip xaa,ip xaa]
     rw[e];exact h
   have aa:V (∀p,s=some p->p+iY bs p<=bs.length->l8 x Z 0=qF bs p):=λp aA ag=>by
    have P:13<=iY bs p:=by unfold iY;split<;>omega
    have ca:=m.o p aA xaa
    have br:=cP.o p aA xaa
    unfold l8 qF
    rw[<-ca,ip bG,br 0 xaa,br 1 xaa,br 2 xaa,br 3 xaa,br 4 xaa,br 5 xaa]
   have Y:V _:=Chg.new bm.o aL (λi hi e=>i4 d.o);have bP:V _:=bf;clear aL bf I ae cP bm a5 bG;go_wp2_with fail;obtain⟨bX,aV,bg,bq,bB,cF,bD,bI⟩:=bP.o;simp only[l8,yai,Nat.zero_add]at bX aV bg bq bB cF bD bI;refine yaz (v:=(l8 x Z 0).agg) (by simp[results,results22,go_sem,bX,aV,bg,bq,bB,cF,bD,bI,l8]) rfl ⟨l8 x Z 0,rfl,?_,r.o,aa.o,Y.o⟩;show(0:Nat)<_;decide
  have bG:x=1:=by simpa using t
  go_wp2_with fail;refine yaj (qH wr hi H bs _ 8 a5.o ao.o xab xab) ?_;rintro e ch ⟨q,rfl,b2,aq,bu,bV⟩;rw[xS]at aq;have am:0<=q/\q<18446744073709551616:=by simpa using b2
  have bp:V _:=aq;have R:V _:=bu;have an:V _:=I.o.keepC bV (by have:=d.o;show ¬(S=H);omega);have ah:V _:=ae.o.keepC bV (by have:=d.o;show ¬(A=H);omega);have ad:V _:=Chg.andThen bm.o bV;clear b2 aq bu bV I ae bm a5 a8;go_wp2_with fail;refine yaj (FN q ch) ?_;rintro e ci ⟨rfl,rfl⟩;have ce:=an.o.c7;have aj:=an.o.fr 7;have u:=fh (S:=λb=>b=S) ci S 7 (.float .f64 q.toNat) rfl;have af:V _:=bp.o.keepC u (λg az e=>i4 d.o) (by have:=d.o;show ¬(H=S);omega);have U:V _:=an.o.put7 q.toNat;have ap:V _:=ah.o.keepC u (by have:=d.o;show ¬(A=S);omega);have C:V _:=Chg.new ad.o u (λi hi e=>i4 d.o);clear u bp an ah ad;go_upto_region 9 with fail;clear ce aj;generalize ci.setCell ⟨S,7,none⟩ (.float .f64 q.toNat)=bW at af U ap C⊢;obtain⟨z,b5⟩:∃z,z=q.toNat:=⟨_,rfl⟩
  rw[<-b5]at U;have ai:V _:=b5;have bo:z<18446744073709551616:=xaa;have fq:V _:=bo;clear b5 bo;obtain⟨a8,aJ,aP,bw,b3,cf,cz,ce⟩:=U.o.at_;simp only[l8]at a8 aJ aP bw b3 cf cz ce;obtain⟨bK,a1,K,a3,a4,ba,cb,b9⟩:=ap.o.at_;simp only[l8]at bK a1 K a3 a4 ba cb b9;have al:=ap.o.fr;have aL:=vH bW A (l8 x Z z);have bf:=zY bW A _ (l8 x Z z) ap.o.at_
  have r:V (RdS (B6 bW A (l8 x Z z)) hi H bs (ju bs s)):=by
   have h:=af.o.keepC aL (λg az e=>i4 d.o) (by have:=d.o;show ¬(H=A);omega);cases s with
   |none=>exact h
   |some p=>
    have e:ju bs (some p)=adv bs.length (1+2*6+8) (some p):=by
     show adv bs.length (iY bs p) (some p)=_;by_cases aA:p+13<=bs.length
     ·have ca:=m.o p rfl xaa;unfold iY;rw[<-ca,iv bG]
     have P:13<=iY bs p:=by unfold iY;split<;>omega
     simp only[adv];rw[ip xaa,ip xaa]
    rw[e];exact h
  have aa:V (∀p,s=some p->p+iY bs p<=bs.length->l8 x Z z=qF bs p):=λp aA ag=>by
   have P:13<=iY bs p:=by unfold iY;split<;>omega
   have ca:=m.o p aA xaa
   have av:iY bs p=21:=by unfold iY;rw[<-ca,iv bG]
   have br:=cP.o p aA xaa
   have bC:=R.o (p+(1+2*6)) (by subst aA;simp only[adv];rw[iv xaa]) xaa
   unfold l8 qF
   rw[<-ca,iv bG,br 0 xaa,br 1 xaa,br 2 xaa,br 3 xaa,br 4 xaa,br 5 xaa,ai.o,bC]
  have Y:V _:=Chg.new C.o aL (λi hi e=>i4 d.o);have bP:V _:=bf;clear aL bf U ap cP C af bG;go_wp2_with fail;obtain⟨bX,aV,bg,bq,bB,cF,bD,bI⟩:=bP.o;simp only[l8,yai,Nat.zero_add]at bX aV bg bq bB cF bD bI;refine yaz (v:=(l8 x Z z).agg) (by simp[results,results22,go_sem,bX,aV,bg,bq,bB,cF,bD,bI,l8]) rfl ⟨l8 x Z z,rfl,?_,r.o,aa.o,Y.o⟩;exact fq.o
