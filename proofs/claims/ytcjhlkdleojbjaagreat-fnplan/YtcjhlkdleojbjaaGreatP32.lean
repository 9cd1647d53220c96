import Derived.Test.YtcjhlkdleojbjaaGreatP18
import Derived.Test.YtcjhlkdleojbjaaGreatP20
namespace Go.Proofs.Z
variable{Zp:Prop}
open Tryz
set_option maxRecDepth 1000000
set_option maxHeartbeats 0
open Go.RowKit Flt
attribute[local go_sem] eF eE eD
variable{ins:List Int}{ss:List Ste}{w B:World}{bG:List Spn}{R aa U:Option Addr}{k i n l q m1 h ae m3 ai base cap bJ:Nat}{s:Ste}{bA o C bE:Int}{vs:List Vl}{H R':Option Nat}{c0 c1 c2 c3 c4 cp cr cn bd ca aj cx cy ct cu cw:Value}
theorem Ix{W r vb an}(HM:E (MS w W R m1 ae aa m3 ai vs ⟨o,C,r,vb,bE,bJ⟩ base H R' U cap))(au:vs.length<=900000):MfC 48 W (MpR w R m1 ae aa m3 ai vs ⟨o,C,r,vb,bE,bJ⟩ base H (eK 3 C r vb 0)) c0 c1 c2 c3 c4 (hy w.heap.size) cp cr cn bd ca aj (hy (w.heap.size+1+1)) (hA C) cx an cy ct cu cw aj:=by
 have HC:E (∀az,Kept 0 0 W az->_):=λaz k=>MS.call HM.o k (eK 3 C r vb 0) xaa;have a7:=HM.o.v.c2;have z:=HM.o.v.c3;exact MpE
theorem OF{W r vb q}(HM:E (MS w W R m1 ae aa m3 ai vs ⟨o,C,r,vb,bE,bJ⟩ base H R' U cap))(au:vs.length<=900000):MfC 33 W (MpR w R m1 ae aa m3 ai vs ⟨o,C,r,vb,bE,bJ⟩ base H (eK 6 C q 0 0)) c0 c1 c2 c3 c4 (hy w.heap.size) cp cr cn bd ca aj (hy (w.heap.size+1+1)) (hA C) cx (hA q) cy ct cu cw aj:=by
 have HC:E (∀az,Kept 0 0 W az->_):=λaz k=>MS.call HM.o k (eK 6 C q 0 0) xaa;exact MpE
theorem km(w:World)(p):AtP (w.alloc p.box) w.heap.size 0 p:=by
 refine⟨?_,?_⟩;all_goals first|(go_simp;done)|(simp;done)
theorem Lo(w g n cap b)(ad:n<=50000)(Z:n<=cap)(f:BL w g n b)(o m)(F:1<=m)(N:m<=1000)(h3:o+m<=n):
  Calls prog 35 #[hz g n cap,(Spn.mk (o:Int) (m:Int)).agg] w λe B=>e=.returned (.bool ((List.range m).all λj=>b (o+j)))/\Kept 0 0 w B:=by
 have aI:=ez 0 0 w (Spn.mk o m).box;have aT:=km w (Spn.mk o m);have HF:E _:=f.keep aI yaa;have HK:E _:=aI;have av:E _:=aT;have r:E (w.heap.size<(w.alloc (Spn.mk o m).box).heap.size):=by show _<_;simp
 obtain⟨aY,aC⟩:=aT;rw[Nat.zero_add]at aC
 have bq:E _:=λw=>by
  have:=xz w (Spn.mk (o:Int) (m:Int)) (n:Int) (by show(1:Int)<=(m:Int);omega) (by show(m:Int)<=1000;omega) xaa xaa
  rw[show mI (o:Int) (m:Int) (n:Int)=true from decide_eq_true ⟨by omega,by omega⟩]at this
  exact this
 have HE:E (∀w,Calls _ _ _ w λe B=>e=.returned (.int _ (o+m))/\Kept 0 0 w _):=λw=>lB w (Spn.mk o _) (by show -1000000<=(o:Int)+m/\(o:Int)+m<=1000000;omega);have HC:E (∀B ar,Kept 0 0 _ B->_):=λB ar k=>uO _ g o m ar _ N (λj hj=>(HF.o.keep k yaa).at_ _ xaa);clear f aI;generalize ((List.range m).all _)=z at HC⊢;go_enter func35,ntmps35;go_wp2_with fail;generalize w.alloc _=aA at HF HK av r HC aY aC⊢
 go_region_with
  (first
   |(go_at_call 68;refine yaj (HC.o _ _ J) ?_;rintro e bc ⟨rfl,rfl⟩)
   |(go_at_call 29;refine yaj (HE.o _) ?_;rintro e aF ⟨rfl,aR⟩;have J:=Kept.trans af aR;obtain⟨bn,aX⟩:=AtP.keep av.o r.o J yaa;rw[Nat.zero_add]at aX)
   |(go_at_call 66;refine yaj (bq.o _) ?_;rintro e ag ⟨rfl,ak⟩;have af:=Kept.trans (eJ 0 0 _ 1) ak;obtain⟨aZ,ax⟩:=AtP.keep av.o r.o af yaa;rw[Nat.zero_add]at ax))
 all_goals
  go_wp2
  go_ret
  exact⟨by cases z<;>rfl,Kept.trans HK.o J⟩
theorem Iy(w)(g n cap:Nat)(ad:n<=50000)(p:Spn)(F:1<=p.len)(N:p.len<=1000)(h3:mI p.off p.len n=false):
  Calls prog 35 #[hz g n cap,p.agg] w λe B=>e=.returned (.bool false)/\Kept 0 0 w B:=by
 have aI:=ez 0 0 w p.box;have aT:=km w p;have HK:E _:=aI;have av:E _:=aT;have r:E (w.heap.size<(w.alloc p.box).heap.size):=by show _<_;simp
 obtain⟨aY,aC⟩:=aT;rw[Nat.zero_add]at aC
 have bq:E _:=λw=>by
  have:=xz w p (n:Int) F N xaa xaa
  rw[h3]at this
  exact this
 clear aI;go_enter func35,ntmps35;go_wp2_with fail;generalize w.alloc _=aA at HK av r aY aC⊢;first|(go_region_with (go_at_call 66;refine yaj (bq.o _) ?_;rintro e ag ⟨rfl,ak⟩;have af:=Kept.trans (eJ 0 0 _ 1) ak;obtain⟨aZ,ax⟩:=AtP.keep av.o r.o af yaa;rw[Nat.zero_add]at ax))|fail
 all_goals
  go_wp2
  go_ret
  exact⟨rfl,Kept.trans HK.o (Kept.trans (eJ 0 0 _ 1) ak)⟩
theorem BB(w g n cap ss i)(ad:n<=50000)(Z:n<=cap)(f:BL w g n (λk=>iY ss i (k:Nat)))(p:Spn)(F:1<=p.len)(N:p.len<=1000):
  Calls prog 35 #[hz g n cap,p.agg] w λe B=>e=.returned (.bool (mJ ss i n p.off p.len))/\Kept 0 0 w B:=by
 cases h3:mI p.off p.len n
 ·have e:mJ ss i n p.off p.len=false:=by unfold mJ;rw[h3];rfl
  rw[e];exact Iy w g n _ ad p F N h3
 have a6:=of_decide_eq_true h3;obtain⟨off,len⟩:=p;simp only at F N a6⊢;obtain⟨o,rfl⟩:=Int.eq_ofNat_of_zero_le a6.1;obtain⟨m,rfl⟩:=Int.eq_ofNat_of_zero_le (by omega:0<=len)
 have e:mJ ss i n (o:Int) (m:Int)=((List.range m).all λj=>iY ss i ((o+j:Nat):Int)):=by
  unfold mJ;rw[h3,Int.toNat_natCast,Bool.true_and];congr 1
 rw[e];exact Lo w g n _ _ ad Z f o m xaa xaa xaa
theorem PV(w)(s p:Spn)(F:-1000000<=s.off+s.len/\s.off+s.len<=1000000)(N:-1000000<=p.off+p.len/\p.off+p.len<=1000000):
  Calls prog 67 #[s.agg,p.agg] w λe B=>e=.returned (.bool (decide (s.off<p.off+p.len/\p.off<s.off+s.len)))/\Kept 0 0 w B:=by
 have aI:=(ez 0 0 w s.box).trans (ez 0 0 _ p.box);have bv:(w.alloc s.box).heap.size=w.heap.size+1:=by simp
 have bq:=(km w s).keep xac (ez 0 0 _ p.box) yaa;have au:=km (w.alloc s.box) p;rw[bv]at au;have HK:E _:=aI;have ar:E _:=bq;have y:E _:=au;have b2:E (w.heap.size+1<((w.alloc s.box).alloc p.box).heap.size):=by show _<_;simp
 have r:E _:=λw=>lB w s F;have al:E _:=λw=>lB w p N;obtain⟨aY,aC⟩:=bq;obtain⟨br,ay⟩:=au;rw[Nat.zero_add]at aC ay;clear aI bv;by_cases u:s.off<p.off+p.len
 ·have HR:E (decide (s.off<p.off+p.len/\p.off<s.off+s.len)=decide (p.off<s.off+s.len)):=by
   show _=_;rw[Bool.eq_iff_iff];simp[u]
  have Y:=decide_eq_true u;go_enter func67,ntmps67;go_wp2_with fail;generalize (w.alloc _).alloc _=aA at HK ar y b2 aY aC br ay⊢
  go_region_held3 (λB=>B.cell? ⟨w.heap.size,0,none⟩=some (hA s.off)/\B.cell? ⟨w.heap.size,1,none⟩=some (hA s.len)/\B.cell? ⟨w.heap.size+1,0,none⟩=some (hA p.off)/\B.cell? ⟨w.heap.size+1,1,none⟩=some (hA p.len)) (go_keep) (first
   |(go_at_call 29;refine yaj (r.o _) ?_;rintro e aF ⟨rfl,aR⟩;have J:=Kept.trans af aR;obtain⟨ci,m1⟩:=AtP.keep ar.o (hJ b2.o) J yaa;obtain⟨bB,b8⟩:=AtP.keep y.o b2.o J yaa;rw[Nat.zero_add]at m1 b8)
   |(go_at_call 29;refine yaj (al.o _) ?_;rintro e ag ⟨rfl,ak⟩;have af:=Kept.trans (eJ 0 0 _ 1) ak;obtain⟨aZ,ax⟩:=AtP.keep ar.o (hJ b2.o) af yaa;obtain⟨bn,aX⟩:=AtP.keep y.o b2.o af yaa;rw[Nat.zero_add]at ax aX))
  all_goals
   go_wp2
   go_ret
   exact⟨hO HR.o,Kept.trans HK.o J⟩
 have HR:E (decide (s.off<p.off+p.len/\p.off<s.off+s.len)=false):=yay (λc=>u c.1);have Y:=yay u;go_enter func67,ntmps67;go_wp2_with fail;generalize (w.alloc _).alloc _=aA at HK ar y b2 aY aC br ay⊢;first|(go_region_with (go_at_call 29;refine yaj (al.o _) ?_;rintro e ag ⟨rfl,ak⟩;have af:=Kept.trans (eJ 0 0 _ 1) ak;obtain⟨aZ,ax⟩:=AtP.keep ar.o (hJ b2.o) af yaa;obtain⟨bn,aX⟩:=AtP.keep y.o b2.o af yaa;rw[Nat.zero_add]at ax aX))|fail
 all_goals
  go_wp2
  go_ret
  exact⟨hO HR.o,Kept.trans HK.o af⟩
def BC(s:Ste)(k:Nat):Int:=if k=0 then s.a else if k=1 then s.b else s.c
def BD(s:Ste)(k:Nat):Int:=if k=0 then s.n else s.len
theorem BE(O:k<cnt s.op):∃p,(fh s)[k]? =some p/\p.off=BC s k/\p.len=BD s k:=by
 have:=fI s.op;unfold fh;rw[List.getElem?_take_of_lt O];rcases (by omega:k=0\/k=1\/k=2) with rfl|rfl|rfl
 ·exact⟨_,rfl,rfl,rfl⟩
 ·exact⟨_,rfl,rfl,rfl⟩
 exact⟨_,rfl,rfl,rfl⟩
theorem BF(h:fW (j9 s)=false):iG ins s=false:=by
 unfold iG;grind
theorem M9(w s):
  Calls prog 63 #[s.agg] w λe B=>e=.returned (j9 s).agg/\Kept 0 0 w B:=by
 go_enter func63,ntmps63;go_wp2;refine yaz (v:=(j9 s).agg) (by simp[results,results63,go_sem,j9]) rfl ⟨rfl,?_⟩;exact(ez 0 0 w _).trans (ez 0 0 _ _)
abbrev my(s:Ste):Value:=.agg #[.int .i64 s.dst,.int .i64 s.len,.int .i64 s.a]
abbrev qI(s:Ste)(G n:Nat):Value:=.agg #[.int .i64 s.dst,.int .i64 s.len,.int .i64 s.op,.int .i64 s.len,.int .i64 s.a,.int .i64 s.b,.int .i64 s.c,.float .f64 s.k,.slice (some ⟨G,0,none⟩) n 3]
theorem vS(w s)(h:s.op=0):
  Calls prog 33 #[s.agg] w λe B=>e=.returned (.iface 108 (my s))/\Kept 0 0 w B:=by
 have t:=beq_iff_eq.2 h;go_enter func33,ntmps33;go_wp2;go_ret;exact⟨rfl,(ez 0 0 w _).trans (ez 0 0 _ _)⟩
structure SB(w:World)(G n:Nat)(ps:List Spn):Prop where
 lt:G<w.heap.size
 at_:∀k,k<n->AtP w G (k*2) (ps.getD k Spn.zero)
theorem SB.keep{G ps}(f:SB w G n ps)(k:Kept l h w B)(aK:G<l\/h<=G\/h<=l):SB B G n ps:=
 ⟨yak f.lt k.size,λi hi=>(f.at_ i hi).keep f.lt k aK⟩
abbrev Iz(s:Ste):Obj:=.cells #[.int .i64 s.a,.int .i64 s.n,.int .i64 s.b,.int .i64 s.len,.int .i64 s.c,.int .i64 s.len] 67
theorem IA(w:World)(s):SB (w.alloc (Iz s)) w.heap.size (cnt s.op) (fh s):=by
 refine⟨by simp,λk O=>?_⟩;have ah:=fI s.op
 have e:(fh s).getD k Spn.zero=[⟨s.a,s.n⟩,⟨s.b,s.len⟩,⟨s.c,s.len⟩].getD k Spn.zero:=by
  unfold fh;grind
 rw[e];rcases (by omega:k=0\/k=1\/k=2) with rfl|rfl|rfl
 all_goals
  refine⟨?_,?_⟩
  all_goals first|(go_simp;done)|(simp;done)
theorem Ai(w s)(h:s.op≠0):
  Calls prog 33 #[s.agg] w λe B=>∃G,e=.returned (.iface 110 (qI s G (cnt s.op)))/\SB B G (cnt s.op) (fh s)/\w.heap.size<=G/\Kept 0 0 w B:=by
 have t:=yan h;have ah:=fI s.op;have F:(w.alloc s.box).heap.size=w.heap.size+1:=by simp
 have N:((w.alloc s.box).alloc (Spn.mk s.dst s.len).box).heap.size=w.heap.size+1+1:=by simp
 have bh:=(ez 0 0 (w.alloc s.box) (Spn.mk s.dst s.len).box).trans (ez 0 0 _ (Iz s));have HK:E _:=(ez 0 0 w _).trans bh;have av:E _:=(lR w s).keep xac bh yaa;have hP:=(km (w.alloc s.box) (Spn.mk s.dst s.len)).keep xac (ez 0 0 _ (Iz s)) yaa;rw[F]at hP;have bL:E _:=hP;have aW:=IA ((w.alloc s.box).alloc (Spn.mk s.dst s.len).box) s;rw[N]at aW;have ao:E _:=aW;have HC:E _:=λw=>mU s.op w;have bH:E _:=λw=>M9 w s;clear bh F N hP aW;go_enter func33,ntmps33;go_wp2_with fail;have ch:(0:Int)<=(cnt s.op:Nat):=xaa;have bO:(cnt s.op:Nat)<=(3:Int):=xaa;obtain⟨bS,aH,bf,Y,bC,bZ,ad,an⟩:=av.o;obtain⟨aY,aC⟩:=bL.o;simp only[Nat.zero_add]at aH bf Y bC bZ ad an aC;have b2:E _:=ao.o.lt;generalize ((w.alloc _).alloc _).alloc _=aA at HK av bL ao b2 bS aH bf Y bC bZ ad an aY aC⊢
 go_region_held3 (λB=>B.cell? ⟨w.heap.size,0,none⟩=some (hA s.op)/\B.cell? ⟨w.heap.size,1,none⟩=some (hA s.len)/\B.cell? ⟨w.heap.size,2,none⟩=some (hA s.n)/\B.cell? ⟨w.heap.size,3,none⟩=some (hA s.dst)/\B.cell? ⟨w.heap.size,4,none⟩=some (hA s.a)/\B.cell? ⟨w.heap.size,5,none⟩=some (hA s.b)/\B.cell? ⟨w.heap.size,6,none⟩=some (hA s.c)/\B.cell? ⟨w.heap.size,7,none⟩=some (.float .f64 s.k)/\B.cell? ⟨w.heap.size+1,0,none⟩=some (hA s.dst)/\B.cell? ⟨w.heap.size+1,1,none⟩=some (hA s.len)) (go_keep)
  (first
   |(go_at_call 62;refine yaj (HC.o _) ?_;rintro e aF ⟨rfl,rfl⟩)
   |(go_at_call 63;refine yaj (bH.o _) ?_;rintro e ag ⟨rfl,ak⟩;have af:=Kept.trans (eJ 0 0 _ 1) ak;obtain⟨b9,ae,a9,ai,e4,b7,aS,aN⟩:=AtT.keep av.o (hJ b2.o) af yaa;obtain⟨br,ay⟩:=AtP.keep bL.o (hJ b2.o) af yaa;simp only[Nat.zero_add]at ae a9 ai e4 b7 aS aN ay))
 all_goals
  go_wp2
  go_ret
  exact⟨_,rfl,ao.o.keep af yaa,by omega,Kept.trans HK.o af⟩
structure SSb(w:World)(B:Nat)(a:Option Addr)(n:Nat)(xss:List (List Nat)):Prop where
 len:xss.length=n
 le:B<=w.heap.size
 at_:n=0\/∃g off,a=some ⟨g,off,none⟩/\g<B/\∀k,k<n->∃b c,w.cell? ⟨g,off+k,none⟩=some (.slice b (xss.getD k []).length c)/\(xss.getD k []).length<=c/\FS w 0 B b (xss.getD k []).length (xss.getD k [])
theorem SSb.keep{J a r}(f:SSb w J a n r)(k:Kept l h w B)(aK:J<=l\/h<=l):SSb B J a n r:=
 ⟨f.len,yao f.le k.size,by
  rcases f.at_ with al|⟨g,off,e,F,N⟩
  ·exact .inl al
  ·refine .inr ⟨g,_,e,F,λj hj=>?_⟩
   obtain⟨b,c,a1,U,a3⟩:=N j hj
   exact⟨b,c,by rw[k.cell (yak F f.le) (by grind)];exact a1,U,a3.keep k xaa⟩⟩
theorem o6(w)(g aV cap o m:Nat)(F:1<=m)(N:o+m<=cap)(h3:o+m<=1000000):
  Calls prog 38 #[(Spn.mk (o:Int) (m:Int)).agg,hz g aV cap] w λe B=>e=.returned (.slice (some ⟨g,o,none⟩) m (cap-o))/\Kept 0 0 w B:=by
 have aI:=ez 0 0 w (Spn.mk (o:Int) (m:Int)).box;have aT:=km w (Spn.mk (o:Int) (m:Int));have HK:E _:=aI;have av:E _:=aT;have r:E (w.heap.size<(w.alloc (Spn.mk (o:Int) (m:Int)).box).heap.size):=by show _<_;simp
 obtain⟨aY,aC⟩:=aT;rw[Nat.zero_add]at aC;have HE:E (∀w,Calls prog 29 #[(Spn.mk (o:Int) (m:Int)).agg] w λe B=>e=.returned (hA ((o:Int)+m))/\Kept 0 0 w B):=λw=>lB w (Spn.mk (o:Int) (m:Int)) (by grind);have bL:¬cap=o:=xaa;clear aI;go_enter func38,ntmps38;go_wp2_with fail;generalize w.alloc (Spn.mk (o:Int) (m:Int)).box=aA at HK av r aY aC⊢;go_region_with (go_at_call 29;refine yaj (HE.o _) ?_;rintro e aF ⟨rfl,aR⟩;have J:=Kept.trans (eJ 0 0 aA 1) aR;obtain⟨bn,aX⟩:=AtP.keep av.o r.o J yaa;rw[Nat.zero_add]at aX)
 all_goals
  go_wp2
  go_ret
  exact⟨rfl,Kept.trans HK.o J⟩
theorem PX:(prog.info? 57).map (·.size)=some 1:=by kernel_rfl
theorem uw{K e}(f:K->e)(L o cs):splice (L.map f) o (cs.map f)=(splice L o cs).map f:=by
 simp[splice,List.map_take,List.map_drop]
theorem EY{L cs o}(h:o+cs.length<=L.length):(splice L o cs).getD k 0=if o<=k/\k<o+cs.length then cs.getD (k-o) 0 else L.getD k 0:=by
 unfold splice;grind
theorem Aj(w g cs):Kept g (g+1) w (w.setRow g cs):=
 ⟨rfl,rfl,rfl,by simp[World.setRow],λi _ ad=>setRow_other w g i cs xaa⟩
theorem oI{P bz o a K Q Eaa}(aG:o.guard=none)(d s m x)
  (ho:o.op=.call {callee:=.builtin .copy,args:=#[d,s],argTypes:=#[m,x]}) (gD) (aB:P.underlying m=some (.slice gD)) (bX:(P.info? gD).map (·.size)=some 1)
  (ak) (e r f u) (g off) (aK:a.eval d=.slice (some ⟨g,off,none⟩) e r) (au:a.eval s=.slice (some ak) f u)
  (av) (t) (aJ:w.heap[g]? =some (.cells av.toArray t (0,0))) (cs) (ad:cs.length=Nat.min f e)
  (y:∀j v,cs[j]? =some v->w.cell? (ak.add j)=some v)
  (z:off+cs.length<=av.length) (F:∀v∈cs,v.oneCell'=true)
  (h:∀B,E (B.heap[g]? =some (.cells (splice av off cs).toArray t (0,0)))->Kept g (g+1) w B->K (a.put o.dst (goInt cs.length)) B):
  if Region.wanted o (yielded bz a.tmps)=true then Oper.wp P o a w K Q else Eaa:=by
 have X:Region.wanted o (yielded bz a.tmps)=true:=by simp[Region.wanted,aG]
 rw[hD X];have p:=run_copy_row (P:=P) w _ x o.type _ g _ _ r _ _ u _ t _ aB bX aJ ad y xaa F;unfold Oper.wp;simp[execOp,ho,resolve,invoke,builtin,aK,au,p,Result.andThen];exact h _ (show _=_ by grind[splice,setRow_heap]) (Aj w g _)
theorem cA.qcv(h:Zp:=by
 have HF:E (∀B,Kept 0 0 (w.alloc (.cells #[hA D,hA L,hA j] 108)) B->B.heap[g]? =some (.cells (zs.map (Value.float .f64)).toArray 57 (0,0))):=λB k=>aX.keep (aI.trans k) yaa;have f:E (∀B,Kept 0 0 (w.alloc (.cells #[hA D,hA L,hA j] 108)) B->∀i u,(xs.map (Value.float .f64))[i]? =some u->B.cell? ((⟨aS,br,none⟩:Addr).add i)=some u):=λB k=>sB an (λi hi=>iD (aI.trans k) (Nat.lt_trans b8 be.o) (au i hi));have N:E ((xs.map (Value.float .f64)).length=Nat.min L L):=by show _=_;rw[List.length_map,an];exact(Nat.min_self L).symm
 have Y:E (D+(xs.map (Value.float .f64)).length<=(zs.map (Value.float .f64)).length):=by simp_all
 have ab:E (∀v∈xs.map (Value.float .f64),v.oneCell'=true):=λv aO=>by
  obtain⟨x,_,rfl⟩:=List.mem_map.1 aO
  rfl
 have HK:E _:=aI;have ch:0<=(j:Int):=xaa;have bO:(j:Int)<m:=xaa;clear aI aX X au;go_enter func160,ntmps160;go_wp2_with fail;generalize w.alloc (.cells #[hA D,hA L,hA j] 108)=aA at bY HF f HK aY aC aL b1⊢
 go_region_held3 (λB=>B.cell? ⟨w.heap.size,0,none⟩=some (hA D)/\B.cell? ⟨w.heap.size,1,none⟩=some (hA L)/\B.cell? ⟨w.heap.size,2,none⟩=some (hA j)/\B.cell? ⟨bX,bU+j,none⟩=some (.slice (some ⟨aS,br,none⟩) L bV)) (go_keep)
  (first
   |(refine oI rfl (.tmp 9) (.tmp 14) 55 55 rfl 57 underlying55 PX ⟨aS,br,none⟩ L (aV-D) L bV g D rfl rfl (zs.map (Value.float .f64)) 57 (HF.o _ af) (xs.map (Value.float .f64)) N.o (f.o _ af) Y.o ab.o ?_;intro bc cT bM;obtain⟨bz,bo,bw,bR⟩:=bY.o g (g+1) bc (Kept.trans (af.mono (lo':=g) (hi':=g+1) λb _ c=>by omega) bM) (.inr ⟨yad,yad⟩))
   |(go_at_call 38;refine yaj (HC.o _) ?_;rintro e ag ⟨rfl,ak⟩;have af:=Kept.trans (eJ 0 0 aA 1) ak;obtain⟨aZ,ax,aU,bx⟩:=bY.o 0 0 ag af (.inl yad)))
 all_goals
  have H:E (FR bc g (splice zs D xs)):=by
   show _=_
   rw[<-uw]
   exact cT.o
  have R2:E _:=Kept.trans (HK.o.mono (lo':=g) (hi':=g+1) λb _ c=>by omega) (Kept.trans (af.mono (lo':=g) (hi':=g+1) λb _ c=>by omega) bM)
  first|(go_end0;exact⟨rfl,H.o,R2.o⟩)|(refine⟨_,rfl,?_⟩;exact⟨rfl,H.o,R2.o⟩)|(go_wp2;go_ret;exact⟨rfl,H.o,R2.o⟩)):Zp:=h
open cA in
theorem E0(w g aV zs)(aX:FR w g zs)(bv:zs.length=aV)(bC:aV<=50000)(bX bU m cb)(ci:bX<g)(j D L bV aS br xs)(an:xs.length=L)(hj:j<m)
  (X:w.cell? ⟨bX,bU+j,none⟩=some (.slice (some ⟨aS,br,none⟩) L bV)) (b8:aS<g) (au:∀k,k<L->w.cell? ⟨aS,br+k,none⟩=some (.float .f64 (xs.getD k 0))) (cf:1<=L) (O:D+L<=aV):
  Calls prog 160 #[.agg #[hA D,hA L,hA j],hz g aV aV,.slice (some ⟨bX,bU,none⟩) m cb] w λe B=>e=.returned (.tuple #[])/\FR B g (splice zs D xs)/\Kept g (g+1) w B:=by
 have aI:=ez 0 0 w (.cells #[hA D,hA L,hA j] 108);have be:E (g<w.heap.size):=aX.lt;have aY:(w.alloc (.cells #[hA D,hA L,hA j] 108)).cell? ⟨w.heap.size,0,none⟩=some (hA D):=by first|(go_simp;done)|(simp;done)
 have aC:(w.alloc (.cells #[hA D,hA L,hA j] 108)).cell? ⟨w.heap.size,1,none⟩=some (hA L):=by first|(go_simp;done)|(simp;done)
 have aL:(w.alloc (.cells #[hA D,hA L,hA j] 108)).cell? ⟨w.heap.size,2,none⟩=some (hA j):=by first|(go_simp;done)|(simp;done)
 have b1:=iD aI (Nat.lt_trans ci aX.lt) X
 have bY:E (∀l h B,Kept l h (w.alloc (.cells #[hA D,hA L,hA j] 108)) B->(h<=l\/(g<=l/\h<=g+1))->B.cell? ⟨w.heap.size,0,none⟩=some (hA D)/\B.cell? ⟨w.heap.size,1,none⟩=some (hA L)/\B.cell? ⟨w.heap.size,2,none⟩=some (hA j)/\B.cell? ⟨bX,bU+j,none⟩=some (.slice (some ⟨aS,br,none⟩) L bV)):=λl h B k aK=>by
  have b3:w.heap.size<(w.alloc (.cells #[hA D,hA L,hA j] 108)).heap.size:=by simp
  have cM:=be.o
  have e:∀b o,b<w.heap.size+1->b≠g->B.cell? ⟨b,o,none⟩=(w.alloc (.cells #[hA D,hA L,hA j] 108)).cell? ⟨b,o,none⟩:=λb o hb bL=>k.cell (p:=⟨b,o,none⟩) (by grind) (by grind)
  grind
 exact qcu
theorem written(w)(p:Spn):
  Calls prog 159 #[p.agg] w λe B=>e=.returned p.agg/\Kept 0 0 w B:=by
 go_enter func159,ntmps159;go_wp2;refine yaz (v:=p.agg) (by simp[results,results159,go_sem]) rfl ⟨rfl,?_⟩;exact(ez 0 0 w _).trans (ez 0 0 _ _)
theorem IB(w s):
  Calls prog 161 #[my s] w λe B=>e=.returned (.slice none 0 0)/\Kept 0 0 w B:=by
 go_enter func161,ntmps161;go_wp2;go_ret;exact⟨rfl,ez 0 0 w _⟩
theorem Lp(w s G n):
  Calls prog 163 #[qI s G n] w λe B=>e=.returned (hz G n 3)/\Kept 0 0 w B:=by
 go_enter func163,ntmps163;go_wp2;go_ret;exact⟨rfl,ez 0 0 w _⟩
def i6(ss:List Ste)(i:Nat)(s:Ste)(x:Int)(k:Nat):Bool:=iY ss i (k:Nat)||decide (s.dst<=(k:Int)/\(k:Int)<x)
theorem rS(ss i s k):iY ss i (k:Nat)=i6 ss i s s.dst k:=by
 unfold i6;rw[yay xaa,Bool.or_false]
theorem ux(ss i s)(x k:Nat)(h:s.dst<=(x:Int)):(if k=x then true else i6 ss i s (x:Int) k)=i6 ss i s ((x:Int)+1) k:=by
 unfold i6;by_cases e:k=x
 ·rw[hD e,decide_eq_true xaa,Bool.or_true]
 rw[hC e];congr 1;rw[Bool.eq_iff_iff];simp only[decide_eq_true_eq];omega
def nf(ss:List Ste)(i:Nat)(n:Nat)(s:Ste):Bool:=mI s.dst s.len n&&(fh s).all (mq ss i n s)
theorem Lq(ap:q<cnt s.op)(h:mq ss i n s ((fh s).getD q Spn.zero)=false):nf ss i n s=false:=by
 unfold nf;have u:q<(fh s).length:=by rw[mM];exact ap
 have:(fh s).all (mq ss i n s)=false:=by
  rw[List.all_eq_false];rw[yai,yam u]at h;exact⟨(fh s)[q],List.getElem_mem _,by simpa using h⟩
 rw[this,Bool.and_false]
theorem IC(ap:q<cnt s.op)(a2:((fh s).take q).all (mq ss i n s)=true)(h:mq ss i n s ((fh s).getD q Spn.zero)=true):((fh s).take (q+1)).all (mq ss i n s)=true:=by
 have u:q<(fh s).length:=by rw[mM];exact ap
 rw[yau u,List.all_append,a2];rw[yai,yam u]at h;simpa using h
theorem R.qaw(h:Zp:=by
 simp only;cases Y:mI s.dst s.len n
 ·exact xed
 have X:=of_decide_eq_true Y;obtain⟨aY,aC⟩:=av.o;rw[Nat.zero_add]at aC;go_wp2_with (first|(go_at_call 161;refine(IB _ s).mono ?_;rintro e bc ⟨rfl,bM⟩)|fail);replace HK:E _:=Kept.trans HK.o bM;replace av:E _:=AtP.keep av.o hP bM yaa;replace hP:=yak hP bM.size;clear bM aY aC;refine wp_loop_rounds 1 ?_;rw[rounds_succ]
 have H:E (nf ss i n s=true):=by
  show _=_;unfold nf fh;rw[Y,al];rfl
 have an:=hP;obtain⟨aY,aC⟩:=av.o;rw[Nat.zero_add]at aC;have ay:E _:=BL.keep HF.o HK.o yaa;have u:E _:=HK;have ar:E _:=av;clear HK av HF;exact xag):Zp:=h
open R in
theorem E4(w g n cap ss i s)(ad:n<=50000)(_hcap:n<=cap)(f:BL w g n (λk=>iY ss i (k:Nat)))(cf:1<=s.len)(b1:s.len<=1000)(y:∀q,q<cnt s.op->1<=((fh s).getD q Spn.zero).len/\((fh s).getD q Spn.zero).len<=1000)(al:s.op=0):
  Calls prog 32 #[hz g n cap,.iface 108 (my s)] w λe B=>e=.returned (.bool (nf ss i n s))/\Kept g (g+1) w B/\(nf ss i n s=true->BL B g n (i6 ss i s (s.dst+s.len))):=by
 have N:∀w:World,(method 326 108 (my s) "loop.example/s08086/impl.written").run prog w=.ok (159,(Spn.mk s.dst s.len).agg) w:=λ_=>by kernel_rfl
 have bQ:∀w:World,(method 326 108 (my s) "loop.example/s08086/impl.taken").run prog w=.ok (161,(my s)) w:=λ_=>by kernel_rfl
 have HF:E _:=f;have bN:E _:=y;have be:E _:=f.lt;clear f y;exact qav
theorem S.qaw(h:Zp:=by
 simp only;cases Y:mI s.dst s.len n
 ·exact xed
 have X:=of_decide_eq_true Y;obtain⟨aY,aC⟩:=av.o;rw[Nat.zero_add]at aC;go_wp2_with (first|(go_at_call 163;refine(Lp _ s G (cnt s.op)).mono ?_;rintro e bc ⟨rfl,bM⟩)|fail);replace HK:E _:=Kept.trans HK.o bM;replace av:E _:=AtP.keep av.o hP bM yaa;replace hP:=yak hP bM.size;clear bM aY aC;go_loopw [19] (λx W=>∃q:Nat,q<=cnt s.op/\x=hA q/\E (((fh s).take q).all (mq ss i n s)=true)/\E (Kept 0 0 bc W)) (λx _=>cnt s.op-(intOf x).toNat)
 case atStart=>exact⟨0,yae,rfl,rfl,Kept.refl _ _ _⟩
 case round=>
  obtain⟨q,ap,rfl,K,bO⟩:=hrel;have I:E _:=Kept.trans HK.o bO.o;have al:E _:=AtP.keep av.o hP bO.o yaa;by_cases ak:q<cnt s.op
  ·have a7:=(ao.o.keep I.o yaa).at_ q ak;have cA:=bN.o q ak;have ah:E (mq ss i n s ((fh s).getD q Spn.zero)=false->_):=λh=>Lq ak h;have ax:E _:=λh=>IC ak K.o h;generalize (fh s).getD q Spn.zero=p at a7 cA ah ax;obtain⟨bS,aH⟩:=a7;have bh:=ez 0 0 wr p.box;have az:E _:=km wr p;have aV:wr.heap.size<(wr.alloc p.box).heap.size:=by simp
   have cC:=fI s.op;have an:=yak hP bO.o.size;go_wp2_with fail;clear bS aH;have aG:E _:=Kept.trans I.o bh;have v:E _:=AtP.keep al.o an bh yaa;have aU:E _:=Kept.trans bO.o bh;generalize aB:wr.heap.size=P2 at az aV an⊢;generalize wr.alloc p.box=bp at az aV aG v aU bh⊢;clear aB bh I al bO;refine yaj (BB bp g n cap ss i ad Z (BL.keep HF.o aG.o yaa) p cA.1 cA.2) ?_;rintro e cl ⟨rfl,bU⟩;have aQ:E _:=Kept.trans aG.o bU;have bY:E _:=AtP.keep v.o xaa bU yaa;have aX:E _:=AtP.keep az.o aV bU yaa;have aD:E _:=Kept.trans aU.o bU;clear bU aG v az aU;simp only;cases au:mJ ss i n p.off p.len
   ·have H:E _:=ah.o (by unfold mq;rw[au];rfl);have R2:E _:=(aQ.o.mono (lo':=g) (hi':=g+1) λb _ c=>by omega)
    exact xdu
   have a5:=rh au;obtain⟨bz,bo⟩:=bY.o;obtain⟨ba,aP⟩:=aX.o;rw[Nat.zero_add]at bo aP;have aS:E _:=PV cl (Spn.mk s.dst s.len) p (by show -1000000<=s.dst+s.len/\s.dst+s.len<=1000000;omega) xaa;have eS:mq ss i n s p=!decide (s.dst<p.off+p.len/\p.off<s.dst+s.len):=by unfold mq MV;rw[au];rfl
   rw[eS]at ah ax;simp only at aS;go_wp2_with fail;refine yaj aS.o ?_;rintro e ci ⟨rfl,bI⟩;have a0:E _:=Kept.trans aQ.o bI;have aJ:E _:=Kept.trans aD.o bI;clear bI aQ aD bY aX bz bo ba aP aS eS au;simp only;cases cI:decide (s.dst<p.off+p.len/\p.off<s.dst+s.len)
   ·have H:E _:=ax.o (hO cI);go_wp2;go_roundw;exact⟨q+1,by omega,by go_num,H,aJ⟩;simp[intOf];omega
   have H:E _:=ah.o (hO cI);have R2:E _:=(a0.o.mono (lo':=g) (hi':=g+1) λb _ c=>by omega)
   exact xdu
  have H:E (nf ss i n s=true):=by
   show _=_;have:=K.o;rw[yap (by rw[mM];omega)]at this;unfold nf;rw[Y,this];rfl
  have an:=yak hP bO.o.size;obtain⟨aY,aC⟩:=al.o;rw[Nat.zero_add]at aC;have ay:E _:=BL.keep HF.o I.o yaa;have u:E _:=I;have ar:E _:=al;clear K bO al I HK av HF;exact xag):Zp:=h
open S in
theorem ID(w g n cap ss i s)(ad:n<=50000)(Z:n<=cap)(f:BL w g n (λk=>iY ss i (k:Nat)))(cf:1<=s.len)(b1:s.len<=1000)(y:∀q,q<cnt s.op->1<=((fh s).getD q Spn.zero).len/\((fh s).getD q Spn.zero).len<=1000)(G)(aW:SB w G (cnt s.op) (fh s))(_hG:G≠g):
  Calls prog 32 #[hz g n cap,.iface 110 (qI s G (cnt s.op))] w λe B=>e=.returned (.bool (nf ss i n s))/\Kept g (g+1) w B/\(nf ss i n s=true->BL B g n (i6 ss i s (s.dst+s.len))):=by
 have N:∀w:World,(method 326 110 (qI s G (cnt s.op)) "loop.example/s08086/impl.written").run prog w=.ok (159,(Spn.mk s.dst s.len).agg) w:=λ_=>by kernel_rfl
 have bQ:∀w:World,(method 326 110 (qI s G (cnt s.op)) "loop.example/s08086/impl.taken").run prog w=.ok (163,(qI s G (cnt s.op))) w:=λ_=>by kernel_rfl
 have HF:E _:=f;have bN:E _:=y;have ao:E _:=aW;have be:E _:=f.lt;clear f y aW;exact qav
theorem Lr(w lo hi a1 U a3 Z c1 n2 c2 ab c3 bA ins)(f:IS w lo hi a1 Z ins):
  Calls prog 30 #[re a1 Z c1 U n2 c2 a3 ab c3 bA] w λe B=>e=.returned (.bool (mL ins n2 ab bA))/\Kept 0 0 w B:=by
 have aI:=ez 0 0 w (mH a1 Z c1 U n2 c2 a3 ab c3 bA);have HF:E _:=f.keep aI yaa;have HL:E _:=f.len;have av:E _:=jZ w (.slice a1 Z c1) (.slice U n2 c2) (.slice a3 ab c3) (hA bA);have HK:E _:=aI;clear f aI;by_cases aq:Z<=20
 ·have R:decide (20<(Z:Int))=false:=yay xaa;by_cases aN:n2<=2000
  ·have aS:decide (2000<(n2:Int))=false:=yay xaa;by_cases be:ab<=50
   ·have aa:decide (50<(ab:Int))=false:=yay xaa
    have bY:E (mL ins n2 ab bA=(ins.all lenB&&decide (0<=bA/\bA<=50000))):=by
     show _=_;unfold mL;rw[HL.o,decide_eq_true aq,decide_eq_true aN,decide_eq_true be];rfl
    go_enter func30,ntmps30;go_wp2_with fail;generalize w.alloc _=aA at HF av HK⊢;go_loop [24] (λi=>∃k:Nat,k<=Z/\i=hA k/\E ((ins.take k).all lenB=true)) (λi=>Z-(intOf i).toNat)
    case atStart=>exact⟨0,yae,rfl,rfl⟩
    case round=>
     obtain⟨k,O,rfl,a2⟩:=hrel;by_cases aG:k<Z
     ·rcases HF.o.at_ with bD|⟨az,bv,b5,aQ,a8,bi,bk⟩
      ·omega
      have c:=bk k aG;subst b5;clear aQ a8 bi bk;cases an:lenB (ins.getD k 0)
      ·have H:E (mL ins n2 ab bA=false):=by
        show _=_;rw[bY.o,mF (hL HL.o aG) an];rfl
       have cc:E _:=fD (ins.getD k 0) aA;rw[an]at cc;generalize ins.getD k 0=y at c cc;clear an a2;go_wp2_with fail;refine yaj cc.o ?_;rintro e ag ⟨rfl,rfl⟩;go_wp2;go_ret;exact⟨hO H.o,HK.o⟩
      have H:E _:=lG (hL HL.o aG) a2.o an;have cc:E _:=fD (ins.getD k 0) aA;rw[an]at cc;generalize ins.getD k 0=y at c cc;clear an a2;go_wp2_with fail;refine yaj cc.o ?_;rintro e ag ⟨rfl,rfl⟩;go_wp2;grind[intOf]
     have bl:E (mL ins n2 ab bA=decide (0<=bA/\bA<=50000)):=by
      show _=_;have:=a2.o;rw[yap (hN HL.o)]at this;rw[bY.o,this];rfl
     obtain⟨_,aY,aC,aL,b1⟩:=av.o;clear a2;by_cases u1:0<=bA
     ·have H:E (mL ins n2 ab bA=decide (bA<=50000)):=by simp_all
      have g:=decide_eq_true u1;go_wp2;go_ret;exact⟨hO H.o,HK.o⟩
     have H:E (mL ins n2 ab bA=false):=by simp_all
     have g:=yay u1;go_wp2;go_ret;exact⟨hO H.o,HK.o⟩
   have H:E (mL ins n2 ab bA=false):=by
    show _=_;unfold mL;rw[yay be];simp
   have aa:decide (50<(ab:Int))=true:=decide_eq_true xaa;exact xew
  have H:E (mL ins n2 ab bA=false):=by
   show _=_;unfold mL;rw[yay aN];simp
  have aS:decide (2000<(n2:Int))=true:=decide_eq_true xaa;exact xew
 have H:E (mL ins n2 ab bA=false):=by
  show _=_;unfold mL;rw[HL.o,yay aq];simp
 have R:decide (20<(Z:Int))=true:=decide_eq_true xaa;exact xew
structure FB(W:World)(p q:Nat)(s:Ste):Prop where
 sa:AtT W p 0 s
 va:At W q 0 (j9 s)
 lp:p<W.heap.size
 lq:q<W.heap.size
theorem FB.keep{W I p}(t:FB W p q s)(k:Kept 0 0 W I):FB I p q s:=
 ⟨t.sa.keep t.lp k yaa,t.va.keep t.lq k yaa,yak t.lp k.size,yak t.lq k.size⟩
theorem is3(w:World)(x y z m)(am:m<=3):IS (w.alloc (.cells #[hA x,hA y,hA z] 3)) 0 (w.heap.size+1) (some ⟨w.heap.size,0,none⟩) m ([x,y,z].take m):=by
 refine⟨by simp;omega,.inr ⟨_,0,rfl,yae,by omega,by simp,λk O=>?_⟩⟩;rw[yai,List.getElem?_take_of_lt O,<-yai];rcases (by omega:k=0\/k=1\/k=2) with rfl|rfl|rfl<;>simp_all<;>grind
theorem E5(w lo hi s a n cap ins)(f:IS w lo hi a n ins):
  Calls prog 31 #[s.agg,.slice a n cap] w λe B=>e=.returned (.bool (iG ins s))/\Kept 0 0 w B:=by
 have HF:E _:=f;have HL:E _:=f.len;have bq:=ez 0 0 w s.box;have u:E _:=lR w s;have b4:w.heap.size<(w.alloc s.box).heap.size:=by simp
 have cc:E _:=λw=>fD s.len w;have ao:E _:=λw=>mb w (j9 s);have HC:E _:=λw=>mU s.op w;clear f;go_enter func31,ntmps31;go_wp2_with fail;refine(M9 _ s).mono ?_;rintro e aA ⟨rfl,aw⟩;have bh:=ez 0 0 aA (fH (j9 s).op (j9 s).len (j9 s).a (j9 s).b (j9 s).c (j9 s).k);have av:E (FB _ _ _ s):=⟨u.o.keep b4 (aw.trans bh) yaa,i9 aA _,by have:=aw.size;simp at this⊢;omega,by simp⟩
 have HK:E _:=(bq.trans aw).trans bh;obtain⟨⟨bS,aH,bf,Y,bC,bZ,ad,an⟩,⟨aD,a5,a7,z,G,F⟩,_,_⟩:=av.o;simp only[Nat.zero_add]at aH bf Y bC bZ ad an a5 a7 z G F;clear bq aw bh u b4;go_wp2_with fail;generalize N:aA.heap.size=Q at av aD a5 a7 z G F⊢;generalize aA.alloc _=ag at av HK bS aH bf Y bC bZ ad an aD a5 a7 z G F⊢;clear N;refine(cc.o _).mono ?_;rintro e aF ⟨rfl,rfl⟩;cases aq:lenB s.len
 ·have H:E (iG ins s=false):=by show _=_;unfold iG;rw[aq];simp
  go_wp2;go_ret;exact⟨hO H.o,HK.o⟩
 go_wp2_with fail;refine(ao.o _).mono ?_;rintro e bc ⟨rfl,bM⟩;replace av:E _:=av.o.keep bM;replace HK:E _:=Kept.trans HK.o bM;clear bM bS aH bf Y bC bZ ad an aD a5 a7 z G F;obtain⟨⟨bS,aH,bf,Y,bC,bZ,ad,an⟩,⟨aD,a5,a7,z,G,F⟩,_,_⟩:=av.o;simp only[Nat.zero_add]at aH bf Y bC bZ ad an a5 a7 z G F;cases ts:fW (j9 s)
 ·have H:E (iG ins s=false):=BF ts;go_wp2;go_ret;exact⟨hO H.o,HK.o⟩
 have bY:E (iG ins s=((!(decide (cnt s.op=0)&&s.n !=0))&&(if s.op=0 then fR s.a ins.length&&ins.getD s.a.toNat 0==s.len else eV s.op s.len s.c ([s.n,s.len,s.len].take (cnt s.op))))):=by
  show _=_;unfold iG;rw[aq,ts];simp
 go_wp2_with fail;refine(HC.o _).mono ?_;rintro e bp ⟨rfl,rfl⟩;have cC:=fI s.op;cases aW:decide (cnt s.op=0)&&s.n !=0
 case true=>
  have H:E (iG ins s=false):=by show _=_;rw[bY.o,aW];rfl
  have bb:cnt s.op=0/\(s.n !=0)=true:=by simp_all
  have co:(((cnt s.op:Nat):Int)==0)=true:=by grind
  have cg:=bb.2;go_wp2;go_ret;exact⟨hO H.o,HK.o⟩
 have Z:E (iG ins s=(if s.op=0 then fR s.a ins.length&&ins.getD s.a.toNat 0==s.len else eV s.op s.len s.c ([s.n,s.len,s.len].take (cnt s.op)))):=by
  show _=_;rw[bY.o,aW];rfl
 have I:E _:=aW;clear bY aW;by_cases bP:cnt s.op=0
 ·have co:(((cnt s.op:Nat):Int)==0)=true:=by grind
  have cg:(s.n !=0)=false:=by
   have:=I.o;rw[decide_eq_true bP,Bool.true_and]at this;exact this
  by_cases al:s.op=0
  ·have bn:=beq_iff_eq.2 al;have J:E _:=IS.keep HF.o HK.o yaa;by_cases a2:0<=s.a/\s.a<n
   ·obtain⟨j,hj⟩:∃j:Nat,s.a=j:=⟨s.a.toNat,by omega⟩
    have am:j<n:=xaa
    have g:E (iG ins s=(ins.getD j 0==s.len)):=by
     show _=_;rw[Z.o,hD al,HL.o,show fR _ n=true from decide_eq_true a2,hj];rfl
    have aM:E _:=λw=>by
     have:=hY (j:Int) n w
     rw[show fR (j:Int) n=true from decide_eq_true xaa]at this
     exact this
    rcases J.o.at_ with bD|⟨az,bv,b5,aQ,a8,bi,bk⟩
    ·omega
    have c0:=bk j am;subst b5;rw[hj]at bC;generalize ins.getD j 0=y at c0 g;have bm:(0:Int)<=j:=xaa;have aO:(j:Int)<n:=xaa;clear aQ a8 bi bk a2 hj;exact xfh
   have g:E (iG ins s=false):=by
    show _=_;rw[Z.o,hD al,HL.o,show fR _ n=false from yay a2];rfl
   have aM:E _:=λw=>by
    have:=hY s.a n w
    rw[show fR s.a n=false from yay a2]at this
    exact this
   clear a2;exact xfh
  have bn:=yan al;have g:E _:=Z.o;rw[hC al]at g;have ch:(0:Int)<=(cnt s.op:Nat):=xaa;have bO:(cnt s.op:Nat)<=(3:Int):=xaa;have bh:=ez 0 0 bp (.cells #[hA s.n,hA s.len,hA s.len] 3);have v:E _:=av.o.keep bh;have x:E _:=Kept.trans HK.o bh;obtain⟨⟨bz,bo,bw,bR,cz,b0,aN,a6⟩,⟨ba,aP,y2,y3,y4,ck⟩,_,_⟩:=v.o;simp only[Nat.zero_add]at bo bw bR cz b0 aN a6 aP y2 y3 y4 ck;have r:E _:=is3 bp s.n s.len s.len _ cC;clear bh;go_wp2_with fail;clear bS aH bf Y bC bZ ad an aD a5 a7 z G F;have p:E (∀m,Calls _ _ #[(j9 s).agg,.slice _ _ 3] _ λe B=>e=.returned (.bool (eV _ s.len s.c _))/\Kept 0 0 w _/\Kept 0 0 _ _):=λm=>(mE _ _ _ _ _ _ _ _ _ _ _ _ _ (IS.keep r.o (eJ 0 0 _ m) yaa) rfl).mono λe B h=>⟨h.1,Kept.trans x.o (Kept.trans (eJ 0 0 _ m) h.2),Kept.trans (eJ 0 0 _ m) h.2⟩
  generalize bp.alloc _=cl at v x r p bz bo bw bR cz b0 aN a6 ba aP y2 y3 y4 ck⊢;rw[bP]at p g;clear bP co cg bn al Z I cC bz bo bw bR cz b0 aN a6 aq ts cc ao HC HF HL r HK av;exact xby
 have co:(((cnt s.op:Nat):Int)==0)=false:=by grind
 have al:s.op≠0:=λe=>bP (hO e);have bn:=yan al;have g:E _:=Z.o;rw[hC al]at g;have ch:(0:Int)<=(cnt s.op:Nat):=xaa;have bO:(cnt s.op:Nat)<=(3:Int):=xaa;have bh:=ez 0 0 bp (.cells #[hA s.n,hA s.len,hA s.len] 3);have v:E _:=av.o.keep bh;have x:E _:=Kept.trans HK.o bh;obtain⟨⟨bz,bo,bw,bR,cz,b0,aN,a6⟩,⟨ba,aP,y2,y3,y4,ck⟩,_,_⟩:=v.o;simp only[Nat.zero_add]at bo bw bR cz b0 aN a6 aP y2 y3 y4 ck;have r:E _:=is3 bp s.n s.len s.len _ cC;clear bh;go_wp2_with fail;clear bS aH bf Y bC bZ ad an aD a5 a7 z G F;have p:E (∀m,Calls _ _ #[(j9 s).agg,.slice _ _ 3] _ λe B=>e=.returned (.bool (eV _ s.len s.c _))/\Kept 0 0 w _/\Kept 0 0 _ _):=λm=>(mE _ _ _ _ _ _ _ _ _ _ _ _ _ (IS.keep r.o (eJ 0 0 _ m) yaa) rfl).mono λe B h=>⟨h.1,Kept.trans x.o (Kept.trans (eJ 0 0 _ m) h.2),Kept.trans (eJ 0 0 _ m) h.2⟩
 generalize bp.alloc _=cl at v x r p bz bo bw bR cz b0 aN a6 ba aP y2 y3 y4 ck⊢;clear bP co bn al Z I cC bz bo bw bR cz b0 aN a6 aq ts cc ao HC HF HL r HK av;exact xby
theorem Ls(n:Nat)(w)(ad:n<=1099511627776):
  (Instr.makeSlice 69 (hA n) (hA n)).run prog w=.ok (hz w.heap.size n n) (w.alloc (.cells (madeCells #[.bool false] n) 4)):=by
 obtain⟨i,hi,b4,b3,b0⟩:=info_parts MN;have:=run_make w 69 4 i _ underlying69 hi b4 .i64 .i64 n n xaa xaa (by grind) xaa;exact qbr
theorem BL.made(w:World)(n):BL (w.alloc (.cells (madeCells #[.bool false] n) 4)) w.heap.size n (λ_=>false):=by
 refine⟨by simp,λk O=>?_,λo=>by simp⟩;grind[yav,madeCells]
theorem E6(h:k<ss.length)(j):i6 ss k (ss.getD k Ste.zero) ((ss.getD k Ste.zero).dst+(ss.getD k Ste.zero).len) j=iY ss (k+1) (j:Nat):=by
 rw[Be h];rfl
theorem IF:mK ins ss (n:Int) k=(iG ins (ss.getD k Ste.zero)&&nf ss k n (ss.getD k Ste.zero)):=rfl
theorem vT(h:iG ins s=true):∀q,q<cnt s.op->1<=((fh s).getD q Spn.zero).len/\((fh s).getD q Spn.zero).len<=1000:=λq ap=>by
 have u:q<(fh s).length:=by rw[mM];exact ap
 rw[yai,yam u]
 exact tS h (List.getElem_mem _)
theorem IG(h:mL ins ss.length bG.length bA=false):oq ins ss bG bA=false:=by
 unfold oq;rw[h];rfl
theorem vU(hi:i<ss.length)(h:mK ins ss bA i=false):oq ins ss bG bA=false:=by
 unfold oq;grind
theorem E7{q}(O:k<bG.length)(h:(bG.take k).all q=true)(t:q (bG.getD k Spn.zero)=true):(bG.take (k+1)).all q=true:=by
 rw[yau O,List.all_append,h];simp_all
theorem II(hi:i<bG.length)(h:tQ ss bA (bG.getD i Spn.zero)=false):oq ins ss bG bA=false:=by
 unfold oq;grind
theorem Lt(w g n cap ins ss i s)(ad:n<=50000)(Z:n<=cap)(f:BL w g n (λk=>iY ss i (k:Nat)))(a5:iG ins s=true)(v)
  (aO:(s.op=0/\v=.iface 108 (my s))\/∃G,G≠g/\v=.iface 110 (qI s G (cnt s.op))/\SB w G (cnt s.op) (fh s)):
  Calls prog 32 #[hz g n cap,v] w λe B=>e=.returned (.bool (nf ss i n s))/\Kept g (g+1) w B/\(nf ss i n s=true->BL B g n (i6 ss i s (s.dst+s.len))):=by
 have af:=ot a5;rcases aO with⟨al,rfl⟩|⟨G,bg,rfl,aW⟩
 ·exact E4 w g n _ _ i s ad Z f af.1 af.2 (vT a5) al
 exact ID w g n _ _ i s ad Z f af.1 af.2 (vT a5) G aW bg
theorem Lu(w s):
  Calls prog 33 #[s.agg] w λe B=>∃v,e=.returned v/\((s.op=0/\v=.iface 108 (my s))\/∃G,w.heap.size<=G/\v=.iface 110 (qI s G (cnt s.op))/\SB B G (cnt s.op) (fh s))/\Kept 0 0 w B:=by
 by_cases h:s.op=0
 ·exact(vS w s h).mono λe B cj=>⟨_,cj.1,.inl ⟨h,rfl⟩,cj.2⟩
 exact(Ai w s h).mono λe B ⟨G,F,N,h3,a6⟩=>⟨_,F,.inr ⟨G,h3,rfl,N⟩,a6⟩
theorem CL(w a1 U a3 Z c1 n2 c2 ab c3 bA ins ss bG)(f:CS w a1 Z U n2 a3 ab ins ss bG):
  Calls prog 11 #[re a1 Z c1 U n2 c2 a3 ab c3 bA] w λe B=>e=.returned (.bool (oq ins ss bG bA))/\Kept 0 0 w B:=by
 have aI:=ez 0 0 w (mH a1 Z c1 U n2 c2 a3 ab c3 bA);have Q:=f.keep aI;have ar:E _:=Lr _ _ _ _ U a3 _ c1 n2 c2 ab c3 bA _ Q.i;have bm:E (ss.length=n2/\bG.length=ab/\ins.length=Z):=⟨f.s.len,f.o.len,f.i.len⟩
 have HF:E _:=Q;have av:E _:=jZ w (.slice a1 Z c1) (.slice U n2 c2) (.slice a3 ab c3) (hA bA);have HK:E _:=aI;clear aI f Q;cases h:mL ins n2 ab bA
 ·have H:E _:=IG (by rw[bm.o.1,bm.o.2.1];exact h);rw[h]at ar;go_enter func11,ntmps11;go_wp2_with fail;refine yaj ar.o ?_;rintro e ag ⟨rfl,bP⟩;go_wp2;go_ret;exact⟨hO H.o,Kept.trans HK.o bP⟩
 have HM:E (mL ins ss.length bG.length bA=true):=by rw[bm.o.1,bm.o.2.1];exact h
 rw[h]at ar;unfold mL at h;rw[bm.o.2.2]at h;simp only[Bool.and_eq_true,decide_eq_true_eq]at h;obtain⟨⟨⟨⟨b8,cg⟩,cO⟩,_⟩,bK,bu⟩:=h;obtain⟨aV,rfl⟩:=Int.eq_ofNat_of_zero_le bK;go_enter func11,ntmps11;go_wp2_with fail;refine yaj ar.o ?_;rintro e ag ⟨rfl,bP⟩;replace HF:E _:=HF.o.keep bP;replace av:E _:=av.o.keep bP;replace HK:E _:=Kept.trans HK.o bP;have am:=Ls aV ag xaa;have bh:=ez 0 0 ag (.cells (madeCells #[.bool false] aV) 4);have bq:E (BL _ _ aV (λk=>iY ss 0 k)):=BL.congr (BL.made ag aV) (λk _=>(Bd _ _).symm);have be:E _:=av.o.sz;have r:E _:=HF.o.i.keep bh yaa;have z:E _:=HF.o.s.keep bh yaa;have S:E _:=HF.o.o.keep bh yaa;clear bP ar HF;obtain⟨_,aY,aC,aL,b1⟩:=av.o;replace av:E _:=av.o.keep bh;obtain⟨_,br,ay,a0,ch⟩:=av.o;replace HK:E _:=Kept.trans HK.o bh;have bM:E (ag.heap.size<(ag.alloc (.cells (madeCells #[.bool false] aV) 4)).heap.size):=by show _<_;simp
 generalize aW:ag.heap.size=g at am bq be bM r z S;generalize ag.alloc _=aF at am av HK bq bM r z S br ay a0 ch;clear bh aW;go_wp2_with fail;clear aY aC aL b1 br ay a0 ch am;go_loopw [17] (λx W=>∃k:Nat,k<=n2/\x=hA k/\E ((List.range k).all (mK ins ss (aV:Int))=true)/\E (BL W g aV (λj=>iY ss k (j:Nat)))/\E (Kept g (g+1) aF W)) (λx _=>n2-(intOf x).toNat)
 case atStart=>exact⟨0,yae,rfl,rfl,bq,Kept.refl _ _ _⟩
 case round=>
  obtain⟨k,O,rfl,a2,F,bO⟩:=hrel;clear bq;obtain⟨_,aY,aC,aL,b1⟩:=av.o.keepR bO.o (.inl be.o);by_cases aG:k<n2
  ·rcases (z.o.keep bO.o (.inl yad)).at_ with bD|⟨az,bv,b5,aQ,a8,bi,bk⟩
   ·omega
   have a7:=bk k aG;have ap:E (mK _ _ _ k=(iG ins _&&nf ss k aV _)):=IF;have al:E _:=λj=>E6 (hL bm.o.1 aG) j;have cM:=yak bM.o bO.o.size;generalize ss.getD k _=s at a7 ap al;have bh:=ez 0 0 wr s.box;have bL:E _:=lR wr s;have hP:wr.heap.size<(wr.alloc s.box).heap.size:=by simp
   subst b5;obtain⟨bS,aH,bf,Y,bC,bZ,ad,an⟩:=a7;clear aQ a8 bi bk;have y:E _:=(r.o.keep bO.o (.inl yad)).keep bh yaa;have m:E _:=BL.keep F.o bh yaa;have K:E _:=(av.o.keepR bO.o (.inl be.o)).keep bh;obtain⟨_,bn,aX,bb,co⟩:=K.o;go_wp2_with fail;clear bS aH bf Y bC bZ ad an aY aC aL b1 bn aX bb co K;generalize aB:wr.heap.size=P at bL hP cM⊢;have J:E _:=Kept.trans bO.o (bh.mono λb _ c=>by omega);generalize wr.alloc _=bc at bL hP y m J bh⊢;clear aB bh F bO;refine yaj (E5 _ _ _ s _ _ _ _ y.o) ?_;rintro e bp ⟨rfl,bQ⟩;have I:E _:=Kept.trans J.o (bQ.mono λb _ c=>by omega);have aw:E _:=BL.keep m.o bQ yaa;have aA:E _:=AtT.keep bL.o hP bQ yaa;have b6:=yak hP bQ.size;clear bQ y m bL J hP;simp only;cases ak:iG ins s
   ·have H:E (oq _ _ bG _=false):=vU (hL bm.o.1 aG) (by rw[ap.o,ak];rfl);have R2:E _:=HK.o.new I.o (Nat.le_of_lt be.o);go_wp2;go_ret;exact⟨hO H.o,R2.o⟩
   obtain⟨bS,aH,bf,Y,bC,bZ,ad,an⟩:=aA.o;simp only[Nat.zero_add]at aH bf Y bC bZ ad an;go_wp2_with fail;clear bS aH bf Y bC bZ ad an;refine yaj (Lu _ s) ?_;rintro e cl ⟨v,rfl,aO,bU⟩;have aD:E _:=Kept.trans I.o (bU.mono λb _ c=>by omega);have u:E _:=BL.keep aw.o bU yaa;have aK:E _:=Lt _ g aV aV _ _ k s xaa yad u.o ak v (aO.imp id λ⟨G,_,N,h3⟩=>⟨G,by omega,N,h3⟩);clear bU I aw aA aO;go_wp2_with fail;refine yaj aK.o ?_;rintro e ci ⟨rfl,bI,(d6:E _)⟩;have aJ:E _:=Kept.trans aD.o bI;clear bI aD u aK;simp only;cases X:nf ss k aV s
   ·have H:E (oq _ _ bG _=false):=vU (hL bm.o.1 aG) (by rw[ap.o,X,Bool.and_false]);have R2:E _:=HK.o.new aJ.o (Nat.le_of_lt be.o);go_wp2;go_ret;exact⟨hO H.o,R2.o⟩
   have H:E _:=jh a2.o (show mK _ _ _ k=true by rw[ap.o,ak,X];rfl);have R1:E _:=BL.congr (d6.o X) (λj _=>al.o j);go_wp2;go_roundw;exact⟨k+1,by omega,by go_num,H,R1,aJ⟩;simp[intOf];omega
  have bl:E ((List.range n2).all (mK ins ss aV)=true):=by
   have:=a2.o;rw[show k=n2 by omega]at this;exact this
  have ao:E (BL wr g aV (λj=>iY ss ss.length j)):=by
   have:=F.o;rw[show k=n2 by omega,<-bm.o.1]at this;exact this
  clear a2 F;go_wp2_with fail;clear aY aC aL b1;go_loopw [37] (λx W=>∃k:Nat,k<=ab/\x=hA k/\E ((bG.take k).all (tQ ss (aV:Int))=true)/\E (BL W g aV (λj=>iY ss ss.length (j:Nat)))/\E (Kept g (g+1) aF W)) (λx _=>ab-(intOf x).toNat)
  case atStart=>exact⟨0,yae,rfl,rfl,ao,bO⟩
  case round=>
   clear ao bO;obtain⟨j,hj,rfl,aZ,F,bO⟩:=hrel;by_cases cc:j<ab
   ·rcases (S.o.keep bO.o (.inl yad)).at_ with bD|⟨az,bv,b5,aQ,a8,bi,bk⟩
    ·omega
    have a7:=bk j cc;have ah:E (tQ ss (aV:Int) (bG.getD j Spn.zero)=false->oq ins ss bG (aV:Int)=false):=λh=>II (hL bm.o.2.1 cc) h;have ax:E _:=λh=>E7 (hL bm.o.2.1 cc) aZ.o h;have cM:=yak bM.o bO.o.size;generalize bG.getD j _=p at a7 ah ax;have bh:=ez 0 0 wr p.box;have bL:E _:=km wr p;have hP:wr.heap.size<(wr.alloc p.box).heap.size:=by simp
    subst b5;obtain⟨bS,aH⟩:=a7;clear aQ a8 bi bk;have m:E _:=BL.keep F.o bh yaa;have cd:E _:=λw=>fD p.len w;have J:E _:=Kept.trans bO.o (bh.mono λb _ c=>by omega);go_wp2_with fail;clear bS aH;generalize aB:wr.heap.size=P at bL hP cM⊢;generalize wr.alloc _=bc at bL hP m J bh⊢;clear aB bh F bO;refine yaj (cd.o _) ?_;rintro e bp ⟨rfl,rfl⟩;cases aq:lenB p.len
    ·have H:E _:=ah.o (by unfold tQ;rw[aq];rfl);have R2:E _:=HK.o.new J.o (Nat.le_of_lt be.o);go_wp2;go_ret;exact⟨hO H.o,R2.o⟩
    have af:=of_decide_eq_true aq;obtain⟨bS,aH⟩:=bL.o;rw[Nat.zero_add]at aH;have aU:E _:=BB _ g aV aV _ _ xaa yad m.o p af.1 af.2;go_wp2_with fail;refine yaj aU.o ?_;rintro e cl ⟨rfl,bU⟩;have aD:E _:=Kept.trans J.o (bU.mono λb _ c=>by omega);have u:E _:=BL.keep m.o bU yaa;clear bS aH bU aU J m bL;simp only;cases au:mJ ss ss.length (aV:Int) p.off p.len
    ·have H:E _:=ah.o (by unfold tQ;rw[au,Bool.and_false]);have R2:E _:=HK.o.new aD.o (Nat.le_of_lt be.o);go_wp2;go_ret;exact⟨hO H.o,R2.o⟩
    have H:E _:=ax.o (by unfold tQ;rw[aq,au];rfl);go_wp2;go_roundw;exact⟨j+1,by omega,by go_num,H,u,aD⟩;simp[intOf];omega
   have H:E (oq ins ss bG (aV:Int)=true):=by
    show _=_;have:=aZ.o;rw[yap (hN bm.o.2.1)]at this;unfold oq;rw[HM.o,this,bm.o.1,bl.o];rfl
   have R2:E _:=HK.o.new bO.o (Nat.le_of_lt be.o);go_wp2;go_ret;exact⟨hO H.o,R2.o⟩
