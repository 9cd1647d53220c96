import Derived.Test.YtdpbpcnldpkljaaGreatP26
import Derived.Test.YtdpbpcnldpkljaaGreatP21
namespace Go.Proofs.Z
open Tryz
set_option maxRecDepth 1000000
set_option maxHeartbeats 0
section
open Go.RowKit Flt
attribute [local go_sem] eD eB eA
variable {w w' W':World} {ops:Array Oper} {lo B hi n g:Nat} {rest:List Oper} {o:Oper} {v:Value} {ss:List (List UInt8)} {ts:List Tok} {a:Act} {b:Option Addr} {Q:Exit->Act->World->Prop}
theorem j9 {P:Program}(w:World)(hgd:o.guard=none)(s x:Operand)(t:TypeId)
  (ho:o.op=.call {callee:=.builtin .append,args:=#[s,x],argTypes:=#[t,t]})
  (base:Nat) (e:TypeId) (i:TypeInfo) (z:Value) (size bytes:Nat) (ht:P.underlying t=some (.slice e)) (hi:P.info? e=some i) (hz:i.zero=some z)
  (hsize:i.size=size) (hby:i.bytes=bytes) (hzs:z.cells.size=size) (hsz:0<size) (hs:a.eval s=.slice none 0 0)
  (b:Option Addr) (m c:Nat) (news:List Value) (hx:a.eval x=.slice b m c) (hl:news.length=m*size) (hsrc:(b=none/\m=0)\/∃ad,b=some ad/\∀j u,news[j]? =some u->w.cell? (ad.add j)=some u) (h1:∀u∈news,u.oneCell'=true)
  (h63:m<=maxLen) (hbytes:m*bytes<=140737488355328) (hbase:base<=w.heap.size)
  (h:∀v' w',w'.ownsRow base e size v' m news->w.grownBy w' none->wpList P ops Q rest (a.put o.dst v') w'):wpList P ops Q (o::rest) a w:=by
 rcases hsrc with⟨rfl,rfl⟩|⟨ad,rfl,hn⟩
 ·have hnil:news=[]:=List.length_eq_zero_iff.1 (by rw[hl];omega)
  subst hnil
  have hr:(Builtin.append_ #[t,t] o.type #[.slice none 0 0,.slice none 0 c]).run P w=.ok (.slice none 0 0) w:=by
   simp[Builtin.append_,run_underlying ht,sizeOf,typeInfo,hi,Builtin.lenOf,run_firstCells_none]
  refine wpList_plain hgd λ_ hK=>?_
  unfold Oper.wp execOp
  simp only[ho,resolve,invoke,builtin,Sem.run_bind,Sem.run_pure,Result.andThen_ok,List.map_toArray,List.map_cons,List.map_nil,hs,hx,hr]
  exact hK _ _ (h _ _ (yav w base e size) ⟨rfl,rfl,rfl,yad,λ_ _ _=>rfl⟩)
 ·refine wpList_append_own w hgd s x t ho base e i z size bytes ht hi hz hsize hby hzs hsz (.slice none 0 0) 0 [] hs (yav w base e size) ad m c news hx hl hn h1 xaa (by rw[Nat.zero_add];exact hbytes) hbase ?_
  intro v' w' q1 q2 _
  rw[Nat.zero_add,List.nil_append] at q1
  exact h v' w' q1 q2
theorem i8 (g off j:Nat):(⟨g,off,none⟩:Addr).add j=⟨g,off+j,none⟩:=by
 simp[Addr.add_lit]
theorem I3 {xs:List Int}(h:IS w lo hi b n xs):(b=none/\n=0)\/∃ad,b=some ad/\∀j u,(xs.map (Value.int .i64))[j]? =some u->w.cell? (ad.add j)=some u:=by
 have hl:=h.len
 rcases h.at_ with z|⟨g,off,rfl,_,_,_,hc⟩
 ·subst z
  have:xs=[]:=List.length_eq_zero_iff.1 hl
  subst this
  cases b
  ·exact .inl ⟨rfl,rfl⟩
  ·exact .inr ⟨_,rfl,λj u hu=>by simp at hu⟩
 ·refine .inr ⟨_,rfl,λj u hu=>?_⟩
  have hj:j<n:=by
   rcases Nat.lt_or_ge j n with c|c
   ·exact c
   ·rw[List.getElem?_eq_none yaf] at hu;cases hu
  rw[i8,hc j hj]
  rw[List.getElem?_map,yal (by omega:j<xs.length)] at hu
  simp only[Option.map_some] at hu
  rw[<-hu,yah,yal (by omega:j<xs.length)];rfl
theorem I4 {vs:List Vl}(h:VS w lo hi b n vs):(b=none/\n=0)\/∃ad,b=some ad/\∀j u,(fp vs)[j]? =some u->w.cell? (ad.add j)=some u:=by
 have hl:=h.len
 rcases h.at_ with z|⟨g,off,rfl,_,_,_,hc⟩
 ·subst z
  have:vs=[]:=List.length_eq_zero_iff.1 hl
  subst this
  cases b
  ·exact .inl ⟨rfl,rfl⟩
  ·exact .inr ⟨_,rfl,λj u hu=>by simp[fp] at hu⟩
 ·refine .inr ⟨_,rfl,λj u hu=>?_⟩
  have hj:j<n*6:=by
   rcases Nat.lt_or_ge j (n*6) with c|c
   ·exact c
   ·rw[List.getElem?_eq_none (by rw[mR];omega)] at hu;cases hu
  have ej:j=j/6*6+j%6:=xaa
  have hk:j/6<n:=xaa
  rw[ej,oG vs (j/6) (j%6) xaa xaa] at hu
  rw[i8]
  obtain⟨c0,c1,c2,c3,c4,c5⟩:=hc (j/6) hk
  have e:off+j=off+j/6*6+j%6:=xaa
  rw[e]
  have:j%6=0\/j%6=1\/j%6=2\/j%6=3\/j%6=4\/j%6=5:=xaa
  rcases this with h|h|h|h|h|h
  all_goals
   rw[h] at hu ⊢
   simp[Vl.cells] at hu
   subst hu
  ·rw[Nat.add_zero];exact c0
  ·exact c1
  ·exact c2
  ·exact c3
  ·exact c4
  ·exact c5
theorem lH (w:World)(lo hi':Nat)(b:Option Addr)(n c:Nat)(xs:List Int)(hn2:n<=1000000)(h:IS w lo hi' b n xs):
  Calls prog 52 #[.slice b n c] w λe w'=>∃a cap,e=.returned (.slice a n cap)/\w'.ownsRow w.heap.size 3 1 (.slice a n cap) n (xs.map (Value.int .i64))/\Kept 0 0 w w':=by
 obtain⟨i0,hi,hz0,hz1,hz2⟩:=info_parts oi
 have HN:Hid _:=I3 h
 have HX:Hid (xs.length=n):=h.len
 clear h
 go_enter func52,ntmps52
 go_wp2_with (first|(at_builtin;refine j9 _ rfl _ _ 23 rfl w.heap.size 3 i0 (.int .i64 0) 1 8 underlying23 hi hz0 hz1 hz2 rfl xab rfl b n c (xs.map (Value.int .i64)) rfl ?c0 HN.out ?c2 ?c3 ?c4 ?c5 ?_))
 case c0=>rw[List.length_map,HX.out,Nat.mul_one]
 case c2=>intro u hu;obtain⟨x,_,rfl⟩:=List.mem_map.1 hu;rfl
 case c3=>unfold maxLen;omega
 case c4=>omega
 case c5=>exact yad
 intro v' w9 hown9 hg9
 obtain⟨a,cap,rfl⟩:=iH hown9
 have R:Hid _:=j5 (base:=w.heap.size) hg9 (λk hk=>by cases hk) (Kept.refl 0 0 w) yad
 have R2:Hid _:=hown9
 clear hown9 hg9
 go_wp2
 go_ret
 exact⟨a,cap,rfl,R2.out,R.out⟩
def tkc (k:Tok):List Value:=[eE k.sym,.int .i64 (k.pos:Int),eE k.text]
def tkF:List Tok->List Value
 |[]=>[]
 |k::r=>tkc k++tkF r
theorem CI (a b:List Tok):tkF (a++b)=tkF a++tkF b:=by
 induction a with
 |nil=>rfl
 |cons x r ih=>simp[tkF,ih]
theorem CJ (k:Tok):tkF [k]=tkc k:=by simp[tkF]
theorem Aj:∀(a:List Tok) (k j:Nat),k<a.length->j<3->(tkF a)[k*3+j]? =(tkc (a.getD k Tok.zero))[j]?
 |x::r,0,j,_,hj=>by
  rw[tkF,Nat.zero_mul,Nat.zero_add,yas (by simp[tkc];omega)];rfl
 |x::r,k+1,j,hk,hj=>by
  have hx:(tkc x).length=3:=rfl
  rw[tkF,yar (by rw[hx];omega),hx,show(k+1)*3+j-3=k*3+j by omega]
  exact Aj r k j (by simpa using hk) hj
def TR (W:World)(B:Nat)(v:Value)(ts:List Tok):Prop:=W.ownsRow B 74 3 v ts.length (tkF ts)
theorem TR.keep {W:World}(f:TR W B v ts)(k:Kept 0 0 W W'):TR W' B v ts:=eO f k
theorem TR.nil (W:World)(B:Nat):TR W B (.slice none 0 0) []:=yav _ _ _ _
theorem TR.blk {W:World}(f:TR W B v ts)(h:v.ownBlock=some g):B<=g/\g<W.heap.size:=eG f h
structure TkA (w:World)(g off n:Nat)(ts:List Tok):Prop where
 len:ts.length=n
 lt:g<w.heap.size
 c0:∀k,k<n->w.cell? ⟨g,off+k*3,none⟩=some (eE (ts.getD k Tok.zero).sym)
 c1:∀k,k<n->w.cell? ⟨g,off+k*3+1,none⟩=some (.int .i64 ((ts.getD k Tok.zero).pos:Int))
 c2:∀k,k<n->w.cell? ⟨g,off+k*3+2,none⟩=some (eE (ts.getD k Tok.zero).text)
theorem TR.at_ {W:World}(f:TR W B v ts)(h:0<ts.length):∃g cap,v=.slice (some ⟨g,0,none⟩) ts.length cap/\B<=g/\TkA W g 0 ts.length ts/\ts.length<=cap:=by
 rcases f.2 with⟨_,c⟩|⟨g,cap,cur,rfl,b1,b2,b3,_,b5,b6⟩
 ·omega
 ·have hg:g<W.heap.size:=by
   exact xbf
  have key:∀k j,k<ts.length->j<3->W.cell? ⟨g,k*3+j,none⟩=(tkc (ts.getD k Tok.zero))[j]?:=λk j hk hj=>by
   rw[cell_of_row W g _ cur _ _ b2,<-Array.getElem?_toList]
   have:(cur.toList.take (ts.length*3))[k*3+j]? =(tkF ts)[k*3+j]?:=by rw[b6]
   rw[List.getElem?_take_of_lt xaa] at this
   rw[this]
   exact Aj ts k j hk hj
  refine⟨g,cap,rfl,b1,⟨rfl,hg,λk hk=>?_,λk hk=>?_,λk hk=>?_⟩,b3⟩
  ·rw[Nat.zero_add];exact key k 0 hk xaa
  ·rw[Nat.zero_add];exact key k 1 hk xaa
  ·rw[Nat.zero_add];exact key k 2 hk xaa
theorem F9:(prog.info? 74).map (λi=>(i.zero,i.size,i.bytes))=some (some (.agg #[.string ⟨#[]⟩,.int .i64 0,.string ⟨#[]⟩]),3,40):=by kernel_rfl
theorem r9:∃i0,prog.info? 74=some i0/\i0.zero=some (.agg #[.string ⟨#[]⟩,.int .i64 0,.string ⟨#[]⟩])/\i0.size=3/\i0.bytes=40:=by
 have h:=F9
 cases e:prog.info? 74 with
 |none=>rw[e] at h;cases h
 |some i0=>
  rw[e] at h
  simp only[Option.map_some,Option.some.injEq,Prod.mk.injEq] at h
  exact⟨i0,rfl,h.1,h.2.1,h.2.2⟩
theorem tR (w:World)(k:Tok)(T:TypeId):∀j u,(tkc k)[j]? =some u->(w.alloc (.cells #[eE k.sym,.int .i64 (k.pos:Int),eE k.text] T)).cell? ((⟨w.heap.size,0,none⟩:Addr).add j)=some u:=by
 intro j u h
 rw[i8,Nat.zero_add,yau]
 match j,h with
 |0,h=>exact h
 |1,h=>exact h
 |2,h=>exact h
theorem lI (w:World)(hgd:o.guard=none)(s x:Operand)
  (ho:o.op=.call {callee:=.builtin .append,args:=#[s,x],argTypes:=#[70,70]})
  (B:Nat) (v:Value) (ts:List Tok) (hs:a.eval s=v) (hown:TR w B v ts)
  (ad:Addr) (k:Tok) (hx:a.eval x=.slice (some ad) 1 1) (hnews:∀j u,(tkc k)[j]? =some u->w.cell? (ad.add j)=some u)
  (h63:ts.length+1<=1000000) (hbase:B<=w.heap.size)
  (h:∀g cap n w',n=(ts++[k]).length->TR w' B (.slice (some ⟨g,0,none⟩) n cap) (ts++[k])->Chg (λb=>v.ownBlock=some b) w w'->(v.ownBlock=some g\/g=w.heap.size)->wpList prog ops Q rest (a.put o.dst (.slice (some ⟨g,0,none⟩) n cap)) w'):wpList prog ops Q (o::rest) a w:=by
 obtain⟨i0,hi,hz0,hz1,hz2⟩:=r9
 refine wpList_append_lies w hgd s x 70 ho B 74 i0 (.agg #[.string ⟨#[]⟩,.int .i64 0,.string ⟨#[]⟩]) 3 40 underlying70 hi hz0 hz1 hz2 rfl xab v ts.length _ hs hown ad 1 1 (tkc k) hx rfl hnews ?_ xab (by unfold maxLen;omega) xaa hbase _ rfl ?_
 ·intro u hu
  simp[tkc] at hu
  rcases hu with rfl|rfl|rfl<;>rfl
 ·intro g cap w' h1 h2 h3 _
  have e:ts.length+1=(ts++[k]).length:=by rw[yak];rfl
  rw[e] at h1 ⊢
  refine h g cap _ w' rfl ?_ (gD h2) h3
  unfold TR
  rw[CI,CJ]
  exact h1
theorem wn {W:World}(hB:w.heap.size<=B)(k:Kept 0 0 w W)(f:TR W B v ts)(c:Chg (λb=>v.ownBlock=some b) W W'):Kept 0 0 w W':=
 Chg.kept k c (λ_ hi=>yan hB (f.blk hi).1)
theorem Ak (w:World)(g off n cap:Nat)(t:List UInt8)(f:TxS w g off n t)(hn:n<=100000)(hcp:n<=cap):
  Calls prog 43 #[.slice (some ⟨g,off,none⟩) n cap] w λe w'=>∃v,e=.returned v/\TR w' w.heap.size v (iz t)/\Kept 0 0 w w':=by
 have HF:Hid (∀W,Kept 0 0 w W->TxS W g off n t):=λW k=>f.keep k
 have HS:Hid _:=zG w g off n cap t f 0 xaa xaa
 have HLN:Hid (t.length=n):=f.len
 have HG:Hid (skM t 0<=n):=by show _<=_;rw[<-f.len];exact rU t 0 (Nat.zero_le _)
 clear f
 obtain⟨A,hA⟩:∃A,A=iz t:=⟨_,rfl⟩
 rw[<-hA]
 have HA:Hid ([]++jr t (skM t 0)=A):=hA.symm
 clear hA
 go_enter func43,ntmps43
 go_wp2_with (go_at_call 70;refine yai HS.out ?_;rintro e w1 ⟨rfl,hw⟩;obtain rfl:=hw.symm)
 go_loopw [3,4] (λv iv W=>∃(k:Nat) (acc:List Tok),k<=n/\acc.length<=k/\iv=.int .i64 k/\Hid (TR W w.heap.size v acc)/\Hid (Kept 0 0 w W)/\Hid (acc++jr t k=A)) (λ_ iv _=>n-(intOf iv).toNat)
 case atStart=>exact⟨skM t 0,[],HG.out,Nat.zero_le _,rfl,TR.nil _ _,Kept.refl 0 0 w,HA⟩
 case round=>
  obtain⟨k,acc,hk,hac,rfl,hR,hK,hT⟩:=hrel
  by_cases hlt:k<n
  ·have hkt:k<t.length:=by rw[HLN.out];exact hlt
   have HX:Hid _:=F6 wr g off n cap t (HF.out wr hK.out) k hlt xaa hcp
   have HB:Hid (k<nxE t k/\nxE t k<=n/\nxE t k<=skM t (nxE t k)/\skM t (nxE t k)<=n):=⟨pz hkt,by rw[<-HLN.out];exact zD hkt,mA _ _,by rw[<-HLN.out];exact rU t _ (zD hkt)⟩
   have HT1:Hid ((nxT t k).sym=[]->acc++[nxT t k]=A):=λh=>by rw[<-hT.out,xJ hkt h]
   have HT2:Hid ((nxT t k).sym≠[]->(acc++[nxT t k])++jr t (skM t (nxE t k))=A):=λh=>by rw[<-hT.out,zE hkt h];simp
   unfold NxO ik at HX
   generalize nxT t k=tk at HX HT1 HT2
   have HS2:Hid (∀W,Kept 0 0 w W->Calls prog 70 #[.slice (some ⟨g,off,none⟩) n cap,.int .i64 (nxE t k:Nat)] W λe w'=>e=.returned (.int .i64 (skM t (nxE t k):Nat))/\w'=W):=λW kk=>zG W g off n cap t (HF.out W kk) (nxE t k) HB.out.2.1 xaa
   generalize nxE t k=ne at HX HB HT2 HS2
   generalize skM t ne=sk at HB HT2 HS2
   have HNW:Hid _:=λw2:World=>tR w2 tk 74
   obtain⟨sy,ps,tx⟩:=tk
   simp only at HX HT1 HT2 HNW
   clear hT hkt
   go_wp2_with (first
    |(go_at_call 71;refine yai HX.out ?_;rintro e w2 ⟨rfl,k2⟩)
    |(at_builtin;refine lI _ rfl _ _ rfl w.heap.size _ acc rfl ((hR.out.keep k2).keep ((ez 0 0 w2 _).trans (ez 0 0 _ _))) ⟨w2.heap.size+1,0,none⟩ ⟨sy,ps,tx⟩ rfl ?c1 ?c2 ?c3 ?_)
    |fail)
   case c1=>
    have h6:=HNW.out (w2.alloc (.cells #[eE sy,.int .i64 (ps:Int),eE tx] 74))
    rw[show(w2.alloc (.cells #[eE sy,.int .i64 (ps:Int),eE tx] 74)).heap.size=w2.heap.size+1 by simp] at h6
    exact h6
   case c2=>omega
   case c3=>have:=hK.out.size;have:=k2.size;simp;omega
   intro g9 cap9 n9 w9 hn9 hR9 hC9 hG9
   have R1:Hid _:=hR9
   have kk2:=(hK.out.trans k2).trans ((ez 0 0 w2 (.cells #[eE sy,.int .i64 (ps:Int),eE tx] 74)).trans (ez 0 0 _ (.cells #[eE sy,.int .i64 (ps:Int),eE tx] 74)))
   have R2:Hid _:=wn yad kk2 ((hR.out.keep k2).keep ((ez 0 0 w2 (.cells #[eE sy,.int .i64 (ps:Int),eE tx] 74)).trans (ez 0 0 _ (.cells #[eE sy,.int .i64 (ps:Int),eE tx] 74)))) hC9
   have hb5:w9.cell? ⟨w2.heap.size,0,none⟩=some (eE sy):=by
    rw[hC9.cell (p:=⟨w2.heap.size,0,none⟩) yaf (λc=>by have:=(hR.out.blk c).2;have:=k2.size;simp at*;omega),(ez 0 0 _ _).cell (p:=⟨w2.heap.size,0,none⟩) xac xaa,yau]
    rfl
   clear hR9 hC9 hG9 hn9 kk2
   cases hs:(sy==[])
   ·have hne:sy≠[]:=by intro c;rw[c] at hs;simp at hs
    have R3:Hid _:=HT2.out hne
    have HS3:Hid _:=HS2.out w9 R2.out
    have hlen:(acc++[(⟨sy,ps,tx⟩:Tok)]).length=acc.length+1:=by simp
    clear hne
    go_wp2_with (go_at_call 70;refine yai HS3.out ?_;rintro e w10 ⟨rfl,hw⟩;obtain rfl:=hw.symm)
    go_roundw
    case rel=>exact⟨sk,_,HB.out.2.2.2,by rw[hlen];have:=HB.out;omega,rfl,R1,R2,R3⟩
    case measure=>simp[intOf];have:=HB.out;omega
   ·have he:sy=[]:=by simpa using hs
    have R3:Hid _:=HT1.out he
    rw[R3.out] at R1
    clear he
    go_wp2_with fail
    go_ret
    exact⟨_,rfl,R1.out,R2.out⟩
  ·rw[xI (by rw[HLN.out];exact hlt),List.append_nil] at hT
   obtain rfl:=hT.out
   go_wp2_with fail
   go_ret
   exact⟨_,rfl,hR.out,hK.out⟩
def RlT (w:World)(ss:List (List UInt8))(e:Ending)(w':World):Prop:=(ss=[]/\e=.returned (.slice none 0 0)/\w'=w)\/(ss≠[]/\e=.returned (.slice (some ⟨w.heap.size,0,none⟩) ss.length ss.length)/\w'=w.alloc (.cells (ss.map λl=>eE l).toArray 9))
theorem Id (l:List UInt8)(h:0<(⟨l.toArray⟩:ByteArray).size):(((⟨l.toArray⟩:ByteArray)[0]'h).toNat:Int)=bt l 0:=by
 cases l with
 |nil=>simp[ByteArray.size] at h
 |cons a r=>rfl
theorem Al (l:List UInt8)(w:World):Calls prog 105 #[eE l] w λe w'=>e=.returned (.bool (iU l))/\w'=w:=by
 have hs:(⟨l.toArray⟩:ByteArray).size=l.length:=fQ l
 have hy:=Id l
 unfold iU
 generalize bt l 0=x at hy ⊢
 cases t1:decide (1<l.length)
 ·have t:¬((1:Int)<(l.length:Int)):=by simp at t1;omega
  go_enter func105,ntmps105
  go_wp2
  go_ret
  exact⟨rfl,rfl⟩
 ·have h0:1<l.length:=by simpa using t1
  have h1:0<l.length:=xaa
  have t:(1:Int)<(l.length:Int):=xaa
  cases t2:decide (65<=x)<;>(go_enter func105,ntmps105;go_wp2;go_ret;exact⟨rfl,rfl⟩)
theorem CK (s:List UInt8)(w:World):Calls prog 126 #[eE s] w (RlT w (jt s)):=by
 by_cases h:s∈UL
 ·simp only[UL,List.mem_cons,List.not_mem_nil,or_false] at h
  rcases h with rfl|rfl|rfl|rfl|rfl|rfl|rfl|rfl|rfl|rfl|rfl|rfl|rfl|rfl<;>(go_enter func126,ntmps126;go_wp2;go_ret;exact .inr ⟨by decide,rfl,rfl⟩)
 ·rw[rV h]
  simp only[UL,List.mem_cons,List.not_mem_nil,or_false,not_or,<-beq_eq_false_iff_ne] at h
  obtain⟨_,_,_,_,_,_,_,_,_,_,_,_,_,_⟩:=h
  go_enter func126,ntmps126
  go_wp2
  go_ret
  exact .inr ⟨by decide,rfl,rfl⟩
theorem Ga (p s:List UInt8)(w:World):Calls prog 106 #[eE p,eE s] w (RlT w (fV p s)):=by
 by_cases h:p∈PQ
 ·have H:=@zJ p s h
  simp only[PQ,List.mem_cons,List.not_mem_nil,or_false] at h
  by_cases hs:s∈RL
  ·clear H
   simp only[RL,List.mem_cons,List.not_mem_nil,or_false] at hs
   rcases h with rfl|rfl|rfl|rfl|rfl|rfl|rfl|rfl|rfl|rfl<;>rcases hs with rfl|rfl|rfl|rfl|rfl|rfl|rfl|rfl|rfl|rfl|rfl|rfl|rfl<;>(go_enter func106,ntmps106;go_wp2;go_ret;first|exact .inl ⟨rfl,rfl,rfl⟩|exact .inr ⟨by decide,rfl,rfl⟩)
  ·rw[H hs]
   clear H
   simp only[RL,List.mem_cons,List.not_mem_nil,or_false,not_or,<-beq_eq_false_iff_ne] at hs
   obtain⟨_,_,_,_,_,_,_,_,_,_,_,_,_⟩:=hs
   rcases h with rfl|rfl|rfl|rfl|rfl|rfl|rfl|rfl|rfl|rfl<;>(go_enter func106,ntmps106;go_wp2;go_ret;first|exact .inl ⟨rfl,rfl,rfl⟩|exact .inr ⟨by decide,rfl,rfl⟩)
 ·rw[zH s h]
  simp only[PQ,List.mem_cons,List.not_mem_nil,or_false,not_or,<-beq_eq_false_iff_ne,gl,jm,fU,gh,fH,i7,fA,mo,kG,gy] at h
  obtain⟨_,_,_,_,_,_,_,_,_,_⟩:=h
  have HN:Hid _:=CK s w
  generalize jt s=us at HN
  go_enter func106,ntmps106
  go_wp2_with fail
  go_at_call 126
  refine yai HN.out ?_
  rintro e w1 (⟨rfl,rfl,rfl⟩|⟨h1,rfl,rfl⟩)
  ·go_wp2
   go_ret
   exact .inl ⟨rfl,rfl,rfl⟩
  ·have HH:Hid (us≠[]):=h1
   clear h1
   go_wp2
   go_ret
   exact .inr ⟨HH.out,rfl,rfl⟩
def WB (W:World)(B:Nat)(v:Value)(ss:List (List UInt8)):Prop:=W.ownsRow B 9 1 v ss.length (ss.map λl=>eE l)
theorem WB.keep {W:World}(f:WB W B v ss)(k:Kept 0 0 W W'):WB W' B v ss:=eO f k
theorem WB.blk {W:World}(f:WB W B v ss)(h:v.ownBlock=some g):B<=g/\g<W.heap.size:=eG f h
theorem CL:(prog.info? 9).map (λi=>(i.zero,i.size,i.bytes))=some (some (.string ⟨#[]⟩),1,16):=by kernel_rfl
theorem qj:∃i0,prog.info? 9=some i0/\i0.zero=some (.string ⟨#[]⟩)/\i0.size=1/\i0.bytes=16:=by
 have h:=CL
 cases e:prog.info? 9 with
 |none=>rw[e] at h;cases h
 |some i0=>
  rw[e] at h
  simp only[Option.map_some,Option.some.injEq,Prod.mk.injEq] at h
  exact⟨i0,rfl,h.1,h.2.1,h.2.2⟩
def WC (w:World)(a:Addr)(ss:List (List UInt8)):Prop:=∀j x,ss[j]? =some x->w.cell? (a.add j)=some (eE x)
theorem WC.news {a:Addr}(h:WC w a ss):∀j u,(ss.map λl=>eE l)[j]? =some u->w.cell? (a.add j)=some u:=by
 intro j u hu
 rw[List.getElem?_map] at hu
 cases e:ss[j]? with
 |none=>rw[e] at hu;cases hu
 |some x=>rw[e] at hu;cases hu;exact h j x e
theorem WB.at_ {W:World}(f:WB W B v ss)(h:0<ss.length):∃g cap,v=.slice (some ⟨g,0,none⟩) ss.length cap/\B<=g/\g<W.heap.size/\WC W ⟨g,0,none⟩ ss/\ss.length<=cap:=by
 have hc:=f
 rcases f.2 with⟨_,c⟩|⟨g,cap,cur,e,b1,b2,b3,_,b5,b6⟩
 ·omega
 ·have hg:g<W.heap.size:=by
   exact xbf
  refine⟨g,cap,e,b1,hg,λj x hx=>?_,b3⟩
  subst e
  exact World.ownsRow.cells (g:=g) hc rfl j _ (by rw[List.getElem?_map,hx];rfl)
theorem pG (w:World)(hgd:o.guard=none)(s x:Operand)
  (ho:o.op=.call {callee:=.builtin .append,args:=#[s,x],argTypes:=#[82,82]})
  (B:Nat) (v:Value) (ss:List (List UInt8)) (hs:a.eval s=v) (hown:WB w B v ss)
  (ad:Addr) (m c:Nat) (ys:List (List UInt8)) (hx:a.eval x=.slice (some ad) m c) (hl:ys.length=m) (hnews:WC w ad ys)
  (hm:0<m) (h63:ss.length+m<=1000000) (hbase:B<=w.heap.size)
  (h:∀g cap n w',n=(ss++ys).length->WB w' B (.slice (some ⟨g,0,none⟩) n cap) (ss++ys)->Chg (λb=>v.ownBlock=some b) w w'->(v.ownBlock=some g\/g=w.heap.size)->wpList prog ops Q rest (a.put o.dst (.slice (some ⟨g,0,none⟩) n cap)) w'):wpList prog ops Q (o::rest) a w:=by
 obtain⟨i0,hi,hz0,hz1,hz2⟩:=qj
 refine wpList_append_lies w hgd s x 82 ho B 9 i0 (.string ⟨#[]⟩) 1 16 underlying82 hi hz0 hz1 hz2 rfl xab v ss.length _ hs hown ad m c (ys.map λl=>eE l) hx (by rw[List.length_map,hl,Nat.mul_one]) hnews.news ?_ hm (by unfold maxLen;omega) xaa hbase _ rfl ?_
 ·intro u hu;obtain⟨x,_,rfl⟩:=List.mem_map.1 hu;rfl
 ·intro g cap w' h1 h2 h3 _
  have e:ss.length+m=(ss++ys).length:=by rw[yak,hl]
  rw[e] at h1 ⊢
  refine h g cap _ w' rfl ?_ (gD h2) h3
  unfold WB
  rw[List.map_append]
  exact h1
theorem WB.pop {W:World}{a:Option Addr}{cap:Nat}{x:List UInt8}(h:WB W B (.slice a n cap) (ss++[x])):WB W B (.slice a ss.length cap) ss:=by
 unfold WB at*
 have hl:(ss++[x]).length=ss.length+1:=by simp
 rw[hl] at h
 refine⟨by simp,?_⟩
 rcases h.2 with⟨_,c⟩|⟨g,c,cur,e,b1,b2,b3,b4,b5,b6⟩
 ·omega
 ·cases e
  refine .inr ⟨g,_,cur,rfl,b1,b2,by omega,b4,b5,?_⟩
  have:cur.toList.take (ss.length*1)=(cur.toList.take ((ss.length+1)*1)).take ss.length:=by rw[List.take_take];congr 1;omega
  rw[this,b6,List.map_append,List.take_left' xac]
theorem Gb (st:List (List UInt8)):st.length<=wts st:=by
 induction st with
 |nil=>simp
 |cons p r ih=>have:=uY p;simp[wts];omega
theorem Ie (s:List UInt8):wt s<=7:=by
 unfold wt
 split
 ·omega
 ·split
  ·omega
  ·split<;>omega
theorem Gc (st:List (List UInt8)):wts st<=7*st.length:=by
 induction st with
 |nil=>simp[wts]
 |cons p r ih=>have:=Ie p;simp[wts];omega
theorem If (st:List (List UInt8)):mu st<=7*st.length+1:=by
 have:=Gc st
 unfold mu
 split<;>omega
theorem pH {s:List UInt8}{st:List (List UInt8)}(h:uX st=false):gi s st=st:=by
 cases st with
 |nil=>exact kY s
 |cons p r=>exact jP h
theorem pI (s:List UInt8):fV jI s=jt s:=rfl
theorem qH (s:List UInt8):fV i7 s=[jI,fA]:=rfl
theorem qI (s:List UInt8):fV gh s=[i7,fH]:=rfl
theorem sb (s:List UInt8)(r:List (List UInt8)):gi s (jI::r)=jt s++r:=by
 rw[ic xab,pI,pH (qC s r)]
theorem on (s:List UInt8)(r:List (List UInt8)):gi s (i7::r)=jt s++fA::r:=by
 rw[ic xab,qH]
 exact sb s _
theorem oq (s:List UInt8)(r:List (List UInt8)):gi s (gh::r)=jt s++fA::fH::r:=by
 rw[ic xab,qI]
 exact on s _
theorem mB (s:List UInt8)(st:List (List UInt8)):(gi s st).length<=st.length+10:=by
 match st with
 |[]=>rw[kY];simp
 |p::r=>
  cases h:iU p
  ·rw[jP h];omega
  ·have hu:=(qD s).2
   rcases pA p s r with c|c|⟨e,c⟩|⟨e,c⟩|⟨e,c⟩
   ·rw[ic h,c,List.nil_append]
    have:=mB s r
    rw[yap];omega
   ·rw[ic h,pH c,yak,yap]
    have:=tF p s
    omega
   ·rw[e,oq,yak];simp only[yap];omega
   ·rw[e,on,yak];simp only[yap];omega
   ·rw[ic h,c]
    show(gi s (gh::gy::r)).length<=_
    rw[oq,yak];simp only[yap];omega
termination_by st.length
theorem Ge (w:World)(l:List UInt8):WC (w.alloc (.cells #[eE l] 9)) ⟨w.heap.size,0,none⟩ [l]:=by
 intro j x e
 cases j with
 |zero=>cases e;rw[i8,yau];rfl
 |succ j=>cases e
theorem WB.form {W:World}(f:WB W B v ss):∃a cap,v=.slice a ss.length cap:=by
 exact xep
theorem RlT.uni {e:Ending}(h:RlT w ss e w'):∃aR gR m,e=.returned (.slice aR m m)/\ss.length=m/\(0<m->aR=some ⟨gR,0,none⟩)/\gR=w.heap.size/\(0<m->gR<w'.heap.size)/\(∀q,q<m->w'.cell? ⟨gR,q,none⟩=some (eE (ss.getD q [])))/\Kept 0 0 w w':=by
 rcases h with⟨rfl,rfl,rfl⟩|⟨_,rfl,rfl⟩
 ·exact⟨none,_,0,rfl,rfl,λh=>by omega,rfl,λh=>by omega,λq hq=>by omega,Kept.refl 0 0 _⟩
 ·refine⟨_,_,_,rfl,rfl,λ_=>rfl,rfl,λ_=>by simp,λq hq=>?_,ez 0 0 w _⟩
  rw[yau]
  show((ss.map λl=>eE l).toArray)[q]? =_
  rw[List.getElem?_toArray,List.getElem?_map,yah,yal hq]
  rfl
theorem Am (w:World)(B:Nat)(v:Value)(st:List (List UInt8))(s:List UInt8)(f:WB w B v st.reverse)(hB:B<=w.heap.size)(hn:st.length<=60000):
  Calls prog 72 #[v,eE s] w λe w'=>∃v',e=.returned v'/\WB w' B v' (gi s st).reverse/\Chg (λb=>B<=b) w w':=by
 have HF:Hid _:=f
 have HRu:Hid _:=λp W=>Ga p s W
 have HP:Hid _:=Al
 have HB:Hid _:=hB
 have HM:Hid (mu st<=420001):=by have:=If st;show _<=_;omega
 obtain⟨E,hE⟩:∃E,E=gi s st:=⟨_,rfl⟩
 rw[<-hE]
 have HE:Hid (gi s st=E):=hE.symm
 clear f hB hE
 go_enter func72,ntmps72
 go_wp2_with fail
 go_loopg [0] (mu st) (λm u W=>∃st',mu st'=m/\Hid (m<=420001)/\st'.length<=420010/\Hid (WB W B u st'.reverse)/\Hid (Chg (λb=>B<=b) w W)/\Hid (gi s st'=E))
 case atStart=>exact⟨st,rfl,HM,by omega,HF,(Kept.refl 0 0 w).chg,HE⟩
 case round=>
  obtain⟨st',hmu,hm,hl,hR,hC,hS⟩:=hrel
  have HMU:Hid (mu st'=gk):=hmu
  clear hmu
  cases st' with
  |nil=>
   obtain⟨a,cap,rfl⟩:=WB.form hR.out
   have R:Hid (([]:List (List UInt8))=E):=(kY s).symm.trans hS.out
   rw[show(([]:List (List UInt8)).reverse).length=0 from rfl]
   go_wp2_with fail
   go_ret
   exact⟨_,rfl,by rw[<-R.out];exact hR.out,hC.out⟩
  |cons p r=>
   obtain⟨g,cap,hu,hg1,hg2,hc,hcap⟩:=WB.at_ hR.out xac
   have hlen:((p::r).reverse).length=r.length+1:=by simp
   rw[hlen] at hu hcap
   subst hu
   have c1:wr.cell? ⟨g,r.length,none⟩=some (eE p):=by
    have:=hc r.length p xac
    rwa [i8,Nat.zero_add] at this
   have HPp:Hid _:=HP.out p wr
   have hl2:r.length+1<=420010:=by simpa using hl
   clear hc hlen hl
   cases hp:iU p
   ·have R:Hid (p::r=E):=(jP hp).symm.trans hS.out
    rw[hp] at HPp
    clear hp
    go_wp2_with (go_at_call 105;refine yai HPp.out ?_;rintro e w1 ⟨rfl,hw⟩;obtain rfl:=hw.symm)
    go_ret
    exact⟨_,rfl,by rw[<-R.out];exact hR.out,hC.out⟩
   ·have R:Hid (gi s (fV p s++r)=E):=(ic hp).symm.trans hS.out
    have HMr:Hid (mu (fV p s++r)<gk):=by rw[<-HMU.out];exact wg p s r hp
    have HLr:Hid (r.length+(fV p s).length<=420010):=by
     have h1:mu (p::r)=wt p+wts r+1:=by unfold mu uX;rw[if_pos hp];rfl
     have h2:=Gb r
     have h3:=tF p s
     have h4:=HMU.out
     have h5:=hm.out
     have h6:=uY p
     show _<=_
     omega
    rw[hp] at HPp
    have HRp:Hid _:=HRu.out p wr
    generalize fV p s=ru at HMr HLr HRp R
    have HPop:Hid (WB wr B (.slice (some ⟨g,0,none⟩) r.length cap) r.reverse):=by
     have h:=WB.pop (ss:=r.reverse) (x:=p) (by have:=hR.out;rw[List.reverse_cons] at this;exact this)
     rw[List.length_reverse] at h
     exact h
    clear hp hR hS HMU
    go_upto_region 3 with (first
     |(go_at_call 105;refine yai HPp.out ?_;rintro e w1 ⟨rfl,hw⟩;obtain rfl:=hw.symm)
     |(go_at_call 106;refine yai HRp.out ?_;intro e w2 hO;obtain⟨aR,gR,m,rfl,hO1,hO2,hO3,hO4,hO5,k2⟩:=RlT.uni hO))
    have HPop2:Hid _:=WB.keep HPop.out k2
    have HC2:Hid _:=Chg.andThen hC.out k2.chg
    have HRule:Hid ((0<m->gR<w2.heap.size)/\∀q,q<m->w2.cell? ⟨gR,q,none⟩=some (eE (ru.getD q []))):=⟨hO4,hO5⟩
    have HLen:Hid (ru.length=m):=hO1
    have hgR:g≠gR:=xaa
    have hsz:wr.heap.size<=w2.heap.size:=k2.size
    have HBw:Hid (B<=w2.heap.size):=by show _<=_;omega
    have HAR:Hid (0<m->aR=some ⟨gR,0,none⟩):=hO2
    rw[HLen.out] at HLr
    have hLr:=HLr.out
    clear hO hO1 hO2 hO3 hO4 hO5 k2 c1 hC HPop HPp HRp
    go_upto_region 5 with fail
    go_loopw [0,6] (λu kv W=>∃j:Nat,j<=m/\kv=.int .i64 ((j:Int)-1)/\Hid (WB W B u (ru.drop j++r).reverse)/\Hid (Chg (λb=>B<=b) w W)/\Hid ((0<m->gR<W.heap.size)/\(∀q,q<m->W.cell? ⟨gR,q,none⟩=some (eE (ru.getD q [])))/\(∀h,u.ownBlock=some h->h≠gR)/\B<=W.heap.size)) (λ_ kv _=>(intOf kv+1).toNat)
    case atStart=>
     refine⟨m,yad,rfl,?_,HC2,⟨HRule.out.1,HRule.out.2,λh hh=>?_,HBw.out⟩⟩
     ·rw[List.drop_eq_nil_of_le (by rw[HLen.out];exact yad),List.nil_append];exact HPop2
     ·simp[Value.ownBlock] at hh;omega
    case round=>
     obtain⟨j,hj,rfl,hR,hC,hA⟩:=hrel
     obtain⟨a,cp,hform⟩:=WB.form hR.out
     subst hform
     by_cases hj0:j=0
     ·subst hj0
      rw[List.drop_zero] at hR
      go_wp2_with fail
      go_roundg (mu (ru++r))
      case measure=>exact HMr.out
      case rel=>exact⟨_,rfl,(by show _<=_;have:=HMr.out;have:=hm.out;omega),by rw[yak,HLen.out];omega,hR,hC,R⟩
     ·obtain⟨q,rfl⟩:∃q,j=q+1:=⟨j-1,by omega⟩
      have hq:q<m:=xaa
      obtain rfl:=HAR.out xaa
      have c2:=hA.out.2.1 q hq
      have HD:Hid (ru.drop q=ru.getD q []::ru.drop (q+1)):=by
       show _=_
       rw[List.drop_eq_getElem_cons (by rw[HLen.out];exact hq),yah,yal (by rw[HLen.out];exact hq)];rfl
      have hlen:(ru.drop (q+1)++r).reverse.length<=420010:=by
       rw[List.length_reverse,yak,List.length_drop,HLen.out];omega
      have HLn:Hid _:=hlen
      generalize ru.getD q []=x at c2 HD
      generalize hxs:(ru.drop (q+1)++r).reverse=xs at hR hlen HLn hA
      have HXS:Hid _:=hxs
      generalize hnn:xs.length=nn at*
      have HNN:Hid (xs.length=nn):=hnn
      clear hxs hnn
      go_wp2_with (first|(at_builtin;refine pG _ rfl _ _ rfl B _ xs rfl (WB.keep hR.out (ez 0 0 _ _)) ⟨wr.heap.size,0,none⟩ 1 1 [x] rfl rfl (Ge _ x) xab ?c2 ?c3 ?_)|fail)
      case c2=>have:=HLn.out;have:=HNN.out;omega
      case c3=>have:=hA.out.2.2.2;simp;omega
      intro g9 cap9 n9 w9 hn9 hR9 hC9 hG9
      have ka:=ez 0 0 wr (.cells #[eE x] 9)
      have R1:Hid (WB w9 B (.slice (some ⟨g9,0,none⟩) n9 cap9) (ru.drop q++r).reverse):=by
       show WB _ _ _ _
       rw[HD.out,List.cons_append,List.reverse_cons,HXS.out]
       exact hR9
      have hbl:∀b,(Value.slice a nn cp).ownBlock=some b->B<=b:=λb hb=>(WB.blk hR.out hb).1
      have R2:Hid (Chg (λb=>B<=b) w w9):=Chg.andThen (Chg.andThen hC.out ka.chg) ⟨hC9.os,hC9.tape,hC9.output,hC9.size,λi hi hn=>hC9.block i hi (λc=>hn (hbl i c))⟩
      have R3:Hid ((0<m->gR<w9.heap.size)/\(∀q,q<m->w9.cell? ⟨gR,q,none⟩=some (eE (ru.getD q [])))/\(∀h,(Value.slice (some ⟨g9,0,none⟩) n9 cap9).ownBlock=some h->h≠gR)/\B<=w9.heap.size):=by
       obtain⟨a1,a2,a3,a4⟩:=hA.out
       have h0:=a1 xaa
       have hs1:=hC9.size
       have hs2:(wr.alloc (.cells #[eE x] 9)).heap.size=wr.heap.size+1:=by simp
       refine⟨λ_=>by omega,λq hq=>?_,λh hh=>?_,by omega⟩
       ·rw[hC9.cell (p:=⟨gR,q,none⟩) (by show gR<_;omega) (λc=>a3 _ c rfl),ka.cell (p:=⟨gR,q,none⟩) h0 xaa]
        exact a2 q hq
       ·simp[Value.ownBlock] at hh
        subst hh
        rcases hG9 with c|c
        ·exact a3 _ c
        ·omega
      clear hR9 hC9 hG9 ka hbl hn9
      go_wp2_with fail
      go_roundw
      case rel=>exact⟨q,by omega,by go_num,R1,R2,R3⟩
      case measure=>simp[intOf]
theorem TkA.keep {off:Nat}(h:TkA w g off n ts)(k:Kept 0 0 w w'):TkA w' g off n ts:=
 ⟨h.len,yaj h.lt k.size,λj hj=>(k.cell (p:=⟨g,off+j*3,none⟩) h.lt xaa).trans (h.c0 j hj),λj hj=>(k.cell (p:=⟨g,off+j*3+1,none⟩) h.lt xaa).trans (h.c1 j hj),λj hj=>(k.cell (p:=⟨g,off+j*3+2,none⟩) h.lt xaa).trans (h.c2 j hj)⟩
theorem WB.lit1 (w:World)(l:List UInt8):WB (w.alloc (.cells #[eE l] 9)) w.heap.size (.slice (some ⟨w.heap.size,0,none⟩) 1 1) [l]:=
 World.ownsRow_lit (base:=w.heap.size) (e:=9) (size:=1) w #[eE l] 1 yad (by unfold maxLen;omega) rfl
theorem An {k:Nat}(h:k<ts.length):ts.drop k=ts.getD k Tok.zero::ts.drop (k+1):=by
 rw[List.drop_eq_getElem_cons h,yah,yal h];rfl
theorem qJ {W:World}(k:Kept 0 0 w W)(c:Chg (λb=>w.heap.size<=b) W W'):Kept 0 0 w W':=Chg.kept k c (λ_ h=>h)
theorem sc (w:World)(aT:Option Addr)(m cap n:Nat)(ts:List Tok)(hl:ts.length=m)(hm:m<=5000)(hT:0<m->∃g off,aT=some ⟨g,off,none⟩/\TkA w g off m ts):
  Calls prog 44 #[.slice aT m cap,.int .i64 (n:Int)] w λe w'=>e=.returned (.int .i64 (ft n ts [gl]))/\Kept 0 0 w w':=by
 have HS:Hid _:=Am
 have HT:Hid _:=hT
 have HL:Hid _:=hl
 have HW1:Hid (WB (w.alloc (.cells #[eE gl] 9)) w.heap.size (.slice (some ⟨w.heap.size,0,none⟩) 1 1) [gl].reverse):=WB.lit1 w gl
 obtain⟨E,hE⟩:∃E,E=ft n ts [gl]:=⟨_,rfl⟩
 rw[<-hE]
 have HE:Hid (ft n (ts.drop 0) [gl]=E):=hE.symm
 clear hE hT hl
 go_enter func44,ntmps44
 go_wp2_with fail
 change Code.wp _ _ _ _ (w.alloc (.cells #[eE gl] 9))
 have HK1:Hid _:=ez 0 0 w (.cells #[eE gl] 9)
 generalize w.alloc (.cells #[eE gl] 9)=w1 at HW1 HK1 ⊢
 go_loopw [5,6] (λv iv W=>∃(k:Nat) (st:List (List UInt8)),k<=m/\iv=.int .i64 k/\st.length<=1+10*k/\Hid (WB W w.heap.size v st.reverse)/\Hid (Kept 0 0 w W)/\Hid (ft n (ts.drop k) st=E)) (λ_ iv _=>m-(intOf iv).toNat)
 case atStart=>exact⟨0,[gl],Nat.zero_le _,rfl,by simp,HW1,HK1,HE⟩
 case round=>
  obtain⟨k,st,hk,rfl,hsl,hR,hK,hE⟩:=hrel
  by_cases hlt:k<m
  ·obtain⟨g,off,rfl,hA⟩:=HT.out xaa
   have c0:=(hA.keep hK.out).c0 k hlt
   have HAk:Hid _:=hA
   have hE2:=hE.out
   rw[An (by rw[HL.out];exact hlt)] at hE2
   have HSt:Hid _:=HS.out wr w.heap.size _ st (ts.getD k Tok.zero).sym hR.out hK.out.size xaa
   have HC1:Hid (∀W,Kept 0 0 w W->W.cell? ⟨g,off+k*3,none⟩=some (eE (ts.getD k Tok.zero).sym)/\W.cell? ⟨g,off+k*3+1,none⟩=some (.int .i64 ((ts.getD k Tok.zero).pos:Int))):=λW kk=>⟨(hA.keep kk).c0 k hlt,(hA.keep kk).c1 k hlt⟩
   generalize ts.getD k Tok.zero=tk at c0 hE2 HSt HC1
   have HE2:Hid _:=hE2
   obtain⟨a,cp,hform⟩:=WB.form hR.out
   generalize st.reverse.length=nn at hform
   have hSL:=mB tk.sym st
   generalize hst:gi tk.sym st=st2 at HSt hSL
   have HST:Hid (gi tk.sym st=st2):=hst
   clear hst hE2 hA hE HAk
   subst hform
   go_upto_region 6 with (go_at_call 72;refine yai HSt.out ?_;rintro e w2 ⟨v2,rfl,hR2,hC2⟩)
   have HR2:Hid _:=hR2
   have HK2:Hid _:=qJ hK.out hC2
   obtain⟨c1,c2⟩:=HC1.out w2 HK2.out
   clear hR2 hC2 c0 HSt hR hK
   cases st2 with
   |nil=>
    obtain⟨a2,cp2,e2⟩:=WB.form HR2.out
    rw[show(([]:List (List UInt8)).reverse).length=0 from rfl] at e2
    subst e2
    have R:Hid ((tk.pos:Int)=E):=by
     have h:=HE2.out
     rw[ft,HST.out] at h
     exact h
    go_quiet (fail)
    have HK3:Hid _:=Kept.trans HK2.out (eK 0 0 w2 nq)
    obtain⟨d1,d2⟩:=HC1.out _ HK3.out
    generalize w2.drewN nq=w3 at HK3 d1 d2 ⊢
    clear c1 c2
    go_wp2_with fail
    go_ret
    exact⟨congrArg (λz=>Ending.returned (.int .i64 z)) R.out,HK3.out⟩
   |cons p r=>
    obtain⟨g2,cp2,e2,hg1,hg2,hc,hcap⟩:=WB.at_ HR2.out xac
    have hlen:((p::r).reverse).length=r.length+1:=by simp
    rw[hlen] at e2 hcap
    subst e2
    have c3:w2.cell? ⟨g2,r.length,none⟩=some (eE p):=by
     have:=hc r.length p xac
     rwa [i8,Nat.zero_add] at this
    have hrl:r.length+1<=100000:=by simp at hSL;omega
    have hrl2:r.length<=10*k+10:=by simp at hSL;omega
    have z0:(((r.length:Nat):Int)+1==0)=false:=by simp;omega
    have z1:IntKind.i64.wrap (((r.length:Nat):Int)+1-1)=((r.length:Nat):Int):=by rw[IntKind.wrap_i64];omega
    have z2:(0:Int)<=((r.length:Nat):Int):=xaa
    have z3:((r.length:Nat):Int)<((r.length:Nat):Int)+1:=xaa
    cases hq:(p==tk.sym)
    ·have hne:p≠tk.sym:=λc=>by rw[c] at hq;simp at hq
     have R:Hid ((tk.pos:Int)=E):=by
      have h:=HE2.out
      rw[ft,HST.out] at h
      simp only[if_neg hne] at h
      exact h
     have hq2:(p !=tk.sym)=true:=by unfold bne;rw[hq];rfl
     clear hc hlen hSL hne
     go_quiet (fail)
     have HK3:Hid _:=Kept.trans HK2.out (eK 0 0 w2 nq)
     obtain⟨d1,d2⟩:=HC1.out _ HK3.out
     generalize w2.drewN nq=w3 at HK3 d1 d2 ⊢
     clear c1 c2 c3
     go_wp2_with fail
     go_ret
     exact⟨congrArg (λz=>Ending.returned (.int .i64 z)) R.out,HK3.out⟩
    ·have he:p=tk.sym:=by simpa using hq
     have R:Hid (ft n (ts.drop (k+1)) r=E):=by
      have h:=HE2.out
      rw[ft,HST.out] at h
      simp only[if_pos he] at h
      exact h
     have HPop:Hid (WB w2 w.heap.size (.slice (some ⟨g2,0,none⟩) r.length cp2) r.reverse):=by
      have h:=WB.pop (ss:=r.reverse) (x:=p) (by have:=HR2.out;rw[List.reverse_cons] at this;exact this)
      rw[List.length_reverse] at h
      exact h
     have hq2:(p !=tk.sym)=false:=by unfold bne;rw[hq];rfl
     clear hc hlen hSL he HR2
     go_quiet (fail)
     have HK3:Hid _:=Kept.trans HK2.out (eK 0 0 w2 nq)
     have HP3:Hid _:=WB.keep HPop.out (eK 0 0 w2 nq)
     generalize w2.drewN nq=w3 at HK3 HP3 ⊢
     clear c1 c2 c3
     go_wp2_with fail
     go_roundw
     case rel=>exact⟨k+1,r,by omega,by go_num,by omega,HP3,HK3,R⟩
     case measure=>simp[intOf];omega
  ·obtain rfl:k=m:=xaa
   have hE2:=hE.out
   rw[List.drop_eq_nil_of_le (by rw[HL.out];exact yad),ft] at hE2
   have HSt:Hid _:=HS.out wr w.heap.size _ st zK hR.out hK.out.size xaa
   have HE2:Hid _:=hE2
   obtain⟨a,cp,hform⟩:=WB.form hR.out
   generalize st.reverse.length=nn at hform
   have hSL:=mB zK st
   generalize gi zK st=st2 at HSt hSL HE2
   clear hE2 hE
   subst hform
   go_upto_region 10 with (go_at_call 72;refine yai HSt.out ?_;rintro e w2 ⟨v2,rfl,hR2,hC2⟩)
   have HR2:Hid _:=hR2
   have HK2:Hid _:=qJ hK.out hC2
   clear hR2 hC2 HSt hR hK
   obtain⟨a2,cp2,e2⟩:=WB.form HR2.out
   cases st2 with
   |nil=>
    rw[show(([]:List (List UInt8)).reverse).length=0 from rfl] at e2
    subst e2
    have R:Hid ((-1:Int)=E):=by have h:=HE2.out;rw[if_pos rfl] at h;exact h
    go_wp2_with fail
    go_ret
    exact⟨congrArg (λz=>Ending.returned (.int .i64 z)) R.out,HK2.out⟩
   |cons p r=>
    rw[show((p::r).reverse).length=r.length+1 by simp] at e2
    subst e2
    have R:Hid ((n:Int)=E):=by have h:=HE2.out;rw[if_neg xac] at h;exact h
    have hrl:r.length+1<=100000:=by simp at hSL;omega
    have z3:(0:Int)<((r.length:Nat):Int)+1:=xaa
    clear hSL
    go_wp2_with fail
    go_ret
    exact⟨congrArg (λz=>Ending.returned (.int .i64 z)) R.out,HK2.out⟩
end
section
open Go.RowKit Flt
variable {n k:Nat} {ts:List Tok}
def hdS:List Tok->List UInt8
 |[]=>zK
 |t::_=>t.sym
theorem gY {n:Nat}{p:List UInt8}{r:List (List UInt8)}(h:iU p=true):∀ts:List Tok,ft n ts (p::r)=ft n ts (fV p (hdS ts)++r)
 |[]=>by rw[ft,ft,ic h];rfl
 |t::ts=>by rw[ft,ft,ic h];rfl
theorem eM {n:Nat}{s:List UInt8}{r:List (List UInt8)}(h:iU s=false):∀{ts:List Tok},ft n ts (s::r)=-1->∃t us,ts=t::us/\t.sym=s/\ft n us r=-1
 |[],hw=>by
  rw[ft,jP h,if_neg xac] at hw
  omega
 |t::us,hw=>by
  rw[ft,jP h] at hw
  simp only at hw
  split at hw
  ·rename_i e;exact⟨t,us,rfl,e.symm,hw⟩
  ·omega
def xV (n:Nat)(p:List UInt8)(l:Nat)(ts:List Tok):Prop:=∀r,ft n ts (p::r)=-1->∃e us ws,ts=us++ws/\Pr l [e] us/\ft n ws r=-1
def TkM (n:Nat)(p:List UInt8)(l:Nat)(ts:List Tok):Prop:=∀r a ls,Pr l [a] ls->ft n ts (p::r)=-1->∃e us ws,ts=us++ws/\Pr l [e] (ls++us)/\ft n ws r=-1
def Ig (n:Nat)(ts:List Tok):Prop:=∀r es ls,Pr 3 es ls->ft n ts (gy::r)=-1->∃es' us ws,ts=us++ws/\Pr 3 es' (ls++us)/\ft n ws r=-1
structure Gr (n k:Nat):Prop where
 u:∀ts,ts.length<k->xV n jI 0 ts
 mu:∀ts,ts.length<k->TkM n fA 1 ts
 t:∀ts,ts.length<k->xV n i7 1 ts
 mt:∀ts,ts.length<k->TkM n fH 2 ts
 e:∀ts,ts.length<k->xV n gh 2 ts
 ma:∀ts,ts.length<k->Ig n ts
theorem EP (g:Gr n k)(ts:List Tok)(hk:ts.length<k+1):TkM n fA 1 ts:=by
 intro r a ls hl hw
 rw[gY xab] at hw
 by_cases c:hdS ts=[42]\/hdS ts=[47]
 ·have er:fV fA (hdS ts)=[hdS ts,jI,fA]:=by
   rcases c with c|c<;>rw[c]<;>rfl
  rw[er] at hw
  obtain⟨o,us,rfl,ho,hw⟩:=eM (by rcases c with c|c<;>rw[c]<;>decide) hw
  rw[<-ho] at c
  obtain⟨b,us1,ws,rfl,h2,hw⟩:=g.u us (by simp at hk;omega) _ hw
  obtain⟨e,us2,ws2,rfl,h3,hw⟩:=g.mu ws (by simp at hk;omega) r (.bin o a b) (ls++o::us1) (.mul hl c h2) hw
  exact⟨e,o::(us1++us2),ws2,by simp,by simpa using h3,hw⟩
 ·have er:fV fA (hdS ts)=[]:=by
   unfold fV
   rw[if_neg xab,if_neg xab,if_neg xab,if_neg xab,if_neg xab,if_neg xab,if_pos rfl,if_neg c]
  rw[er] at hw
  exact⟨a,[],ts,rfl,by simpa using hl,hw⟩
theorem pJ (g:Gr n k)(hk:ts.length<k+1){x:List UInt8}{R:List (List UInt8)}(hw:ft n ts (x::[40]::gh::R)=-1)(hx:iU x=false):∃k' l e us ws,ts=k'::l::(us++ws)/\k'.sym=x/\l.sym=[40]/\Pr 2 [e] us/\ft n ws R=-1/\ws.length<k:=by
 obtain⟨k',us,rfl,hk',hw⟩:=eM hx hw
 obtain⟨l,us,rfl,hl,hw⟩:=eM xab hw
 obtain⟨e,us1,ws,rfl,h2,hw⟩:=g.e us (by simp at hk;omega) _ hw
 exact⟨k',l,e,us1,ws,rfl,hk',hl,h2,hw,by simp at hk;omega⟩
theorem Ih (g:Gr n k)(ts:List Tok)(hk:ts.length<k+1):xV n jI 0 ts:=by
 intro r hw
 rw[gY xab,pI] at hw
 generalize hdS ts=s at hw
 by_cases h:s∈UL
 ·simp only[UL,List.mem_cons,List.not_mem_nil,or_false] at h
  rcases h with rfl|rfl|rfl|rfl|rfl|rfl|rfl|rfl|rfl|rfl|rfl|rfl|rfl|rfl
  ·obtain⟨o,us,rfl,ho,hw⟩:=eM xab hw
   obtain⟨e,us1,ws,rfl,h2,hw⟩:=g.u us (by simp at hk;omega) _ hw
   exact⟨_,o::us1,ws,rfl,.neg ho h2,hw⟩
  ·obtain⟨t,us,rfl,ht,hw⟩:=eM xab hw
   have hw:ft n us (mo::r)=-1:=hw
   rw[gY xab] at hw
   by_cases c:hdS us=[40]
   ·rw[c] at hw
    obtain⟨l,us1,rfl,hl,hw⟩:=eM xab hw
    have hw:ft n us1 (kG::[41]::r)=-1:=hw
    rw[gY xab] at hw
    by_cases c2:hdS us1=[41]
    ·rw[c2] at hw
     obtain⟨r',us2,rfl,hr,hw⟩:=eM xab hw
     exact⟨_,[t,l,r'],us2,rfl,.call0 ht hl hr,hw⟩
    ·rw[show fV kG (hdS us1)=[gh,gy] by simp[fV,c2,gl,jm,fU,gh,fH,i7,fA,mo,kG]] at hw
     obtain⟨e,us2,ws,rfl,h2,hw⟩:=g.e us1 (by simp at hk;omega) _ hw
     obtain⟨es,us3,ws2,rfl,h3,hw⟩:=g.ma ws (by simp at hk;omega) _ [e] us2 (.arg1 h2) hw
     obtain⟨r',us4,rfl,hr,hw⟩:=eM xab hw
     exact⟨_,t::l::(us2++us3++[r']),us4,by simp,.call ht hl h3 hr,hw⟩
   ·rw[show fV mo (hdS us)=[] by simp[fV,c,gl,jm,fU,gh,fH,i7,fA,mo]] at hw
    exact⟨_,[t],us,rfl,.name ht,hw⟩
  ·obtain⟨l,us,rfl,hl,hw⟩:=eM xab hw
   obtain⟨e,us1,ws,rfl,h2,hw⟩:=g.e us (by simp at hk;omega) _ hw
   obtain⟨r',us2,rfl,hr,hw⟩:=eM xab hw
   exact⟨_,l::(us1++[r']),us2,by simp,.par hl h2 hr,hw⟩
  iterate 2
   ·obtain⟨k',l,e,us,ws,rfl,h1,hl,h2,hw,hk2⟩:=pJ g hk hw xab
    obtain⟨r',usr',rfl,hr,hw⟩:=eM xab hw
    exact⟨_,k'::l::(us++[r']),_,by simp,.key1 (by first|exact .inl h1|exact .inr h1) hl h2 hr,hw⟩
  iterate 2
   ·obtain⟨k',l,e,us,ws,rfl,h1,hl,h2,hw,hk2⟩:=pJ g hk hw xab
    obtain⟨c,usc,rfl,hc,hw⟩:=eM xab hw
    obtain⟨e2,u2,w2,rfl,h3,hw⟩:=g.e _ (by simp at hk2;omega) _ hw
    obtain⟨r',usr',rfl,hr,hw⟩:=eM xab hw
    exact⟨_,k'::l::(us++c::(u2++[r'])),_,by simp,.key2 (by first|exact .inl h1|exact .inr h1) hl h2 hc h3 hr,hw⟩
  ·obtain⟨k',l,e,us,ws,rfl,h1,hl,h2,hw,hk2⟩:=pJ g hk hw xab
   obtain⟨c,usc,rfl,hc,hw⟩:=eM xab hw
   obtain⟨e2,u2,w2,rfl,h3,hw⟩:=g.e _ (by simp at hk2;omega) _ hw
   obtain⟨c2,usc2,rfl,hc2,hw⟩:=eM xab hw
   obtain⟨e3,u3,w3,rfl,h4,hw⟩:=g.e _ (by simp at hk2;omega) _ hw
   obtain⟨r',usr',rfl,hr,hw⟩:=eM xab hw
   exact⟨_,k'::l::(us++c::(u2++c2::(u3++[r']))),_,by simp,.key3 h1 hl h2 hc h3 hc2 h4 hr,hw⟩
  iterate 2
   ·obtain⟨k',l,e,us,ws,rfl,h1,hl,h2,hw,hk2⟩:=pJ g hk hw xab
    obtain⟨c,usc,rfl,hc,hw⟩:=eM xab hw
    obtain⟨m,usm,rfl,hm,hw⟩:=eM xab hw
    obtain⟨r',usr',rfl,hr,hw⟩:=eM xab hw
    exact⟨_,k'::l::(us++[c,m,r']),_,by simp,.keyN (by first|exact .inl h1|exact .inr h1) hl h2 hc hm hr,hw⟩
  ·obtain⟨k',l,e,us,ws,rfl,h1,hl,h2,hw,hk2⟩:=pJ g hk hw xab
   obtain⟨c,usc,rfl,hc,hw⟩:=eM xab hw
   obtain⟨i,usi,rfl,hi,hw⟩:=eM xab hw
   obtain⟨c2,usc2,rfl,hc2,hw⟩:=eM xab hw
   obtain⟨m,usm,rfl,hm,hw⟩:=eM xab hw
   obtain⟨r',usr',rfl,hr,hw⟩:=eM xab hw
   exact⟨_,k'::l::(us++[c,i,c2,m,r']),_,by simp,.put h1 hl h2 hc hi hc2 hm hr,hw⟩
  ·obtain⟨k',l,e,us,ws,rfl,h1,hl,h2,hw,hk2⟩:=pJ g hk hw xab
   obtain⟨c,usc,rfl,hc,hw⟩:=eM xab hw
   obtain⟨x,usx,rfl,hx,hw⟩:=eM xab hw
   obtain⟨r',usr',rfl,hr,hw⟩:=eM xab hw
   exact⟨_,k'::l::(us++[c,x,r']),_,by simp,.grad h1 hl h2 hc hx hr,hw⟩
  ·obtain⟨k',l,e,us,ws,rfl,h1,hl,h2,hw,hk2⟩:=pJ g hk hw xab
   obtain⟨c,usc,rfl,hc,hw⟩:=eM xab hw
   obtain⟨x,usx,rfl,hx,hw⟩:=eM xab hw
   obtain⟨c2,usc2,rfl,hc2,hw⟩:=eM xab hw
   obtain⟨e3,u3,w3,rfl,h4,hw⟩:=g.e _ (by simp at hk2;omega) _ hw
   obtain⟨r',usr',rfl,hr,hw⟩:=eM xab hw
   exact⟨_,k'::l::(us++c::x::c2::(u3++[r'])),_,by simp,.jvp h1 hl h2 hc hx hc2 h4 hr,hw⟩
  ·obtain⟨t,us,rfl,ht,hw⟩:=eM xab hw
   exact⟨_,[t],us,rfl,.num (.inr ht),hw⟩
 ·rw[rV h] at hw
  obtain⟨t,us,rfl,ht,hw⟩:=eM xab hw
  exact⟨_,[t],us,rfl,.num (.inl ht),hw⟩
theorem Ii (g:Gr n k)(ts:List Tok)(hk:ts.length<k+1):xV n i7 1 ts:=by
 intro r hw
 rw[gY xab,qH] at hw
 obtain⟨a,us,ws,rfl,h1,hw⟩:=Ih g ts hk _ hw
 obtain⟨e,us2,ws2,rfl,h2,hw⟩:=EP g ws (by simp at hk;omega) r a us (.up01 h1) hw
 exact⟨e,us++us2,ws2,by simp,h2,hw⟩
theorem EQ (g:Gr n k)(ts:List Tok)(hk:ts.length<k+1):TkM n fH 2 ts:=by
 intro r a ls hl hw
 rw[gY xab] at hw
 by_cases c:hdS ts=[43]\/hdS ts=[45]
 ·have er:fV fH (hdS ts)=[hdS ts,i7,fH]:=by
   rcases c with c|c<;>rw[c]<;>rfl
  rw[er] at hw
  obtain⟨o,us,rfl,ho,hw⟩:=eM (by rcases c with c|c<;>rw[c]<;>decide) hw
  rw[<-ho] at c
  obtain⟨b,us1,ws,rfl,h2,hw⟩:=g.t us (by simp at hk;omega) _ hw
  obtain⟨e,us2,ws2,rfl,h3,hw⟩:=g.mt ws (by simp at hk;omega) r (.bin o a b) (ls++o::us1) (.add hl c h2) hw
  exact⟨e,o::(us1++us2),ws2,by simp,by simpa using h3,hw⟩
 ·have er:fV fH (hdS ts)=[]:=by
   unfold fV
   rw[if_neg xab,if_neg xab,if_neg xab,if_neg xab,if_pos rfl,if_neg c]
  rw[er] at hw
  exact⟨a,[],ts,rfl,by simpa using hl,hw⟩
theorem I5 (g:Gr n k)(ts:List Tok)(hk:ts.length<k+1):xV n gh 2 ts:=by
 intro r hw
 rw[gY xab,qI] at hw
 obtain⟨a,us,ws,rfl,h1,hw⟩:=Ii g ts hk _ hw
 obtain⟨e,us2,ws2,rfl,h2,hw⟩:=EQ g ws (by simp at hk;omega) r a us (.up12 h1) hw
 exact⟨e,us++us2,ws2,by simp,h2,hw⟩
theorem Ij (g:Gr n k)(ts:List Tok)(hk:ts.length<k+1):Ig n ts:=by
 intro r es ls hl hw
 rw[gY xab] at hw
 by_cases c:hdS ts=[44]
 ·have er:fV gy (hdS ts)=[[44],gh,gy]:=by rw[c];rfl
  rw[er] at hw
  obtain⟨o,us,rfl,ho,hw⟩:=eM xab hw
  obtain⟨b,us1,ws,rfl,h2,hw⟩:=g.e us (by simp at hk;omega) _ hw
  obtain⟨e,us2,ws2,rfl,h3,hw⟩:=g.ma ws (by simp at hk;omega) r _ (ls++o::us1) (.argM hl ho h2) hw
  exact⟨e,o::(us1++us2),ws2,by simp,by simpa using h3,hw⟩
 ·have er:fV gy (hdS ts)=[]:=by
   unfold fV
   rw[if_neg xab,if_neg xab,if_neg xab,if_neg xab,if_neg xab,if_neg xab,if_neg xab,if_neg xab,if_neg xab,if_pos rfl,if_neg c]
  rw[er] at hw
  exact⟨es,[],ts,rfl,by simpa using hl,hw⟩
theorem mC (n:Nat):∀k,Gr n k
 |0=>⟨λ_ h=>by omega,λ_ h=>by omega,λ_ h=>by omega,λ_ h=>by omega,λ_ h=>by omega,λ_ h=>by omega⟩
 |k+1=>⟨Ih (mC n k),EP (mC n k),Ii (mC n k),EQ (mC n k),I5 (mC n k),Ij (mC n k)⟩
theorem m4 {r:List (List UInt8)}(h:ft n ts (gh::r)=-1):∃e us ws,ts=us++ws/\Pr 2 [e] us/\ft n ws r=-1:=(mC n (ts.length+1)).e ts yae r h
def kIn:List UInt8:=[105,110]
def CN:List UInt8:=[108,101,116]
def CO:List UInt8:=[111,117,116]
def Ao:List UInt8:=[100,101,102]
def CP:List UInt8:=[114,101,112,101,97,116]
theorem CQ {es:List Ex}(h:Pr n es ts):∀t∈ts,t.sym≠[59]:=by
 induction h<;>(try simp only[List.forall_mem_append,List.forall_mem_cons])<;>grind [gm,iT,f8,tG,zL,uZ,Cw,tH,qE,mW,xM,wi,Cx]
inductive Sm where
 |inS (n l:Tok)
 |letS (n:Tok) (e:Ex)
 |rep (i n:Tok) (e:Ex)
 |defS (n:Tok) (ps:List Tok) (e:Ex)
 |outS (k:Tok) (e:Ex)
inductive PPm:List Tok->List Tok->Prop
 |one {t:Tok}:t.sym=f8->PPm [t] [t]
 |more {ps ts:List Tok} {c t:Tok}:PPm ps ts->c.sym=[44]->t.sym=f8->PPm (ps++[t]) (ts++[c,t])
theorem Ap {ps:List Tok}(h:PPm ps ts):∀t∈ts,t.sym=f8\/t.sym=[44]:=by
 induction h<;>grind
inductive PSm:Sm->List Tok->Prop
 |inS {k n c l:Tok}:k.sym=kIn->n.sym=f8->c.sym=[58]->l.sym=gm->PSm (.inS n l) [k,n,c,l]
 |letS {k n q:Tok} {e:Ex} {ts:List Tok}:k.sym=CN->n.sym=f8->q.sym=[61]->Pr 2 [e] ts->PSm (.letS n e) (k::n::q::ts)
 |rep {k i n q:Tok} {e:Ex} {ts:List Tok}:k.sym=CP->i.sym=gm->n.sym=f8->q.sym=[61]->Pr 2 [e] ts->PSm (.rep i n e) (k::i::n::q::ts)
 |def0 {k n l r q:Tok} {e:Ex} {ts:List Tok}:k.sym=Ao->n.sym=f8->l.sym=[40]->r.sym=[41]->q.sym=[61]->Pr 2 [e] ts->PSm (.defS n [] e) (k::n::l::r::q::ts)
 |defS {k n l r q:Tok} {e:Ex} {ps us ts:List Tok}:k.sym=Ao->n.sym=f8->l.sym=[40]->PPm ps us->r.sym=[41]->q.sym=[61]->Pr 2 [e] ts->PSm (.defS n ps e) (k::n::l::(us++r::q::ts))
 |outS {k:Tok} {e:Ex} {ts:List Tok}:k.sym=CO->Pr 2 [e] ts->PSm (.outS k e) (k::ts)
theorem CR {s:Sm}(h:PSm s ts):∀t∈ts,t.sym≠[59]:=by
 cases h<;>grind [CQ,Ap,kIn,CN,CP,Ao,CO,gm,f8]
inductive PGm:List Sm->List Tok->Prop
 |nil:PGm [] []
 |cons {s:Sm} {ss:List Sm} {ts us:List Tok} {c:Tok}:PSm s ts->c.sym=[59]->PGm ss us->PGm (s::ss) (ts++c::us)
theorem qK {n:Nat}:∀(k:Nat) (ts:List Tok),ts.length<=k->∀r ps ls,PPm ps ls->ft n ts (fU::r)=-1->∃ps' us ws,ts=us++ws/\PPm ps' (ls++us)/\ft n ws r=-1
 |k,ts,hk,r,ps,ls,hp,hw=>by
  rw[gY xab] at hw
  by_cases c:hdS ts=[44]
  ·rw[show fV fU (hdS ts)=[[44],[110,97,109,101],fU] by rw[c];rfl] at hw
   obtain⟨o,us,rfl,ho,hw⟩:=eM xab hw
   obtain⟨t,us1,rfl,ht,hw⟩:=eM xab hw
   match k,hk with
   |0,hk=>simp at hk
   |k+1,hk=>
    obtain⟨ps',us2,ws,rfl,h3,hw⟩:=qK k us1 (by simp at hk;omega) r (ps++[t]) (ls++[o,t]) (.more hp ho ht) hw
    exact⟨ps',o::t::us2,ws,by simp,by simpa using h3,hw⟩
  ·rw[show fV fU (hdS ts)=[] by
    unfold fV
    rw[if_neg xab,if_neg xab,if_pos rfl,if_neg c]] at hw
   exact⟨ps,[],ts,rfl,by simpa using hp,hw⟩
theorem tS {n:Nat}:∀(k:Nat) (ts:List Tok),ts.length<=k->ft n ts [gl]=-1->∃ss,PGm ss ts
 |k,ts,hk,hw=>by
  rw[gY xab] at hw
  unfold fV at hw
  rw[if_pos rfl] at hw
  generalize hdS ts=s at hw
  have next:∀{us:List Tok},us.length<ts.length->ft n us [gl]=-1->∃ss,PGm ss us:=λ{us} hl h=>by
   match k,hk with
   |0,hk=>omega
   |k+1,hk=>exact tS k us xaa h
  by_cases g0:s=[105,110]
  ·rw[if_pos g0] at hw
   obtain⟨k1,us,rfl,h1,hw⟩:=eM xab hw
   obtain⟨k2,us,rfl,h2,hw⟩:=eM xab hw
   obtain⟨k3,us,rfl,h3,hw⟩:=eM xab hw
   obtain⟨k4,us,rfl,h4,hw⟩:=eM xab hw
   obtain⟨k5,us,rfl,h5,hw⟩:=eM xab hw
   obtain⟨ss,hg⟩:=next yaf hw
   exact⟨_,.cons (ts:=[k1,k2,k3,k4]) (.inS h1 h2 h3 h4) h5 hg⟩
  rw[if_neg g0] at hw
  by_cases g1:s=[108,101,116]
  ·rw[if_pos g1] at hw
   obtain⟨k1,us,rfl,h1,hw⟩:=eM xab hw
   obtain⟨k2,us,rfl,h2,hw⟩:=eM xab hw
   obtain⟨k3,us,rfl,h3,hw⟩:=eM xab hw
   obtain⟨e,us,ws,rfl,h4,hw⟩:=m4 hw
   obtain⟨k5,us5,rfl,h5,hw⟩:=eM xab hw
   obtain⟨ss,hg⟩:=next yaf hw
   exact⟨_,.cons (ts:=k1::k2::k3::us) (.letS h1 h2 h3 h4) h5 hg⟩
  rw[if_neg g1] at hw
  by_cases g2:s=[114,101,112,101,97,116]
  ·rw[if_pos g2] at hw
   obtain⟨k1,us,rfl,h1,hw⟩:=eM xab hw
   obtain⟨k2,us,rfl,h2,hw⟩:=eM xab hw
   obtain⟨k3,us,rfl,h3,hw⟩:=eM xab hw
   obtain⟨k4,us,rfl,h4,hw⟩:=eM xab hw
   obtain⟨e,us,ws,rfl,h6,hw⟩:=m4 hw
   obtain⟨k5,us5,rfl,h5,hw⟩:=eM xab hw
   obtain⟨ss,hg⟩:=next yaf hw
   exact⟨_,.cons (ts:=k1::k2::k3::k4::us) (.rep h1 h2 h3 h4 h6) h5 hg⟩
  rw[if_neg g2] at hw
  by_cases g3:s=[100,101,102]
  ·rw[if_pos g3] at hw
   obtain⟨k1,us,rfl,h1,hw⟩:=eM xab hw
   obtain⟨k2,us,rfl,h2,hw⟩:=eM xab hw
   obtain⟨k3,us,rfl,h3,hw⟩:=eM xab hw
   have hw:ft n us (jm::[41]::[61]::gh::[59]::[gl])=-1:=hw
   rw[gY xab] at hw
   by_cases c:hdS us=[110,97,109,101]
   ·rw[show fV jm (hdS us)=[[110,97,109,101],fU] by rw[c];rfl] at hw
    obtain⟨t,us1,rfl,ht,hw⟩:=eM xab hw
    obtain⟨ps,us2,ws,rfl,hp,hw⟩:=qK us1.length us1 yad _ [t] [t] (.one ht) hw
    obtain⟨k6,us,rfl,h6,hw⟩:=eM xab hw
    obtain⟨k7,us,rfl,h7,hw⟩:=eM xab hw
    obtain⟨e,us,ws,rfl,h8,hw⟩:=m4 hw
    obtain⟨k5,us5,rfl,h5,hw⟩:=eM xab hw
    obtain⟨ss,hg⟩:=next yaf hw
    have:=PGm.cons (ts:=k1::k2::k3::(t::us2++k6::k7::us)) (.defS h1 h2 h3 hp h6 h7 h8) h5 hg
    exact⟨_,by simpa using this⟩
   ·rw[show fV jm (hdS us)=[] by
     unfold fV
     rw[if_neg xab,if_pos rfl,if_neg c]] at hw
    obtain⟨k6,us,rfl,h6,hw⟩:=eM xab hw
    obtain⟨k7,us,rfl,h7,hw⟩:=eM xab hw
    obtain⟨e,us,ws,rfl,h8,hw⟩:=m4 hw
    obtain⟨k5,us5,rfl,h5,hw⟩:=eM xab hw
    obtain⟨ss,hg⟩:=next yaf hw
    exact⟨_,.cons (ts:=k1::k2::k3::k6::k7::us) (.def0 h1 h2 h3 h6 h7 h8) h5 hg⟩
  rw[if_neg g3] at hw
  by_cases g4:s=[111,117,116]
  ·rw[if_pos g4] at hw
   obtain⟨k1,us,rfl,h1,hw⟩:=eM xab hw
   obtain⟨e,us,ws,rfl,h4,hw⟩:=m4 hw
   obtain⟨k5,us5,rfl,h5,hw⟩:=eM xab hw
   obtain⟨ss,hg⟩:=next yaf hw
   exact⟨_,.cons (ts:=k1::us) (.outS h1 h4) h5 hg⟩
  rw[if_neg g4] at hw
  cases ts with
  |nil=>exact⟨_,.nil⟩
  |cons t ts=>
   rw[List.nil_append,ft,kY] at hw
   simp only at hw
   omega
theorem CS (h:ft n ts [gl]=-1):∃ss,PGm ss ts:=tS ts.length ts yad h
inductive Bdg where
 |val (nm:List UInt8) (v:Nat)
 |fn (nm:List UInt8) (ps:List Tok) (e:Ex)
def Bdg.nm:Bdg->List UInt8
 |.val n _=>n
 |.fn n _ _=>n
structure LSt where
 ins:List Int
 vs:List Vl
 outs:List Int
 names:List Bdg
 calls:Nat
abbrev Aq:=Int×Nat
abbrev Rs (α:Type):=Except Aq α
def fI (st:LSt)(v:Vl)(p:Nat):Rs (LSt×Nat):=if ji (st.vs++[v])=true then .error (5,p) else .ok ({st with vs:=st.vs++[v]},st.vs.length)
def eU (st:LSt)(i:Nat):Int:=(st.vs.getD i Vl.zero).len
def ie (ns:List Bdg)(s:List UInt8):Option Bdg:=ns.find? λb=>b.nm==s
def vp (loc:List (List UInt8×Nat))(s:List UInt8):Option Nat:=(loc.find? λb=>b.1==s).map (·.2)
def fh (st:LSt)(loc:List (List UInt8×Nat))(t:Tok):Rs Nat:=
 match vp loc t.text with
 |some v=>.ok v
 |none=>match ie st.names t.text with
  |some (.val _ v)=>.ok v
  |_=>.error (3,t.pos)
def lk (st:LSt)(xs:List Nat):Int:=xs.foldl (λn i=>if n<eU st i then eU st i else n) 1
def gS (n:Int)(p:Nat):LSt->List Nat->Rs (LSt×List Nat)
 |st,[]=>.ok (st,[])
 |st,i::r=>if eU st i<n then
   match fI st (eI 10 n (i:Int) 0 0) p with
   |.error f=>.error f
   |.ok (st1,j)=>match gS n p st1 r with
    |.error f=>.error f
    |.ok (st2,js)=>.ok (st2,j::js)
  else match gS n p st r with
   |.error f=>.error f
   |.ok (st2,js)=>.ok (st2,i::js)
def iY (st:LSt)(xs:List Nat)(p:Nat):Rs (LSt×List Nat):=if xs.all (λi=>eU st i==lk st xs||eU st i==1)=true then gS (lk st xs) p st xs else .error (4,p)
def gz (t:List UInt8):Int:=t.foldl (λv b=>v*10+((b.toNat:Int)-48)) 0
def ll (t:List UInt8):Nat:=cop .quo (floatOfInt .f64 (nds (gc t)).1) (floatOfInt .f64 (nds (gc t)).2.1)
def lq (s:List UInt8):Int:=if s=[43] then 2 else if s=[45] then 3 else if s=[42] then 4 else 5
def gZ (st:LSt)(m:List Vl×Int)(p:Nat):Rs (LSt×Nat):=if ji m.1=true then .error (5,p) else .ok ({st with vs:=m.1},m.2.toNat)
def jS (st:LSt)(k:Tok)(a:Nat)(n:Tok):Rs (LSt×Nat):=
 if k.sym=mW then
  if eU st a<=gz n.text then .error (4,n.pos) else fI st (eI 11 1 (a:Int) 0 (gz n.text)) k.pos
 else if eU st a≠1 then .error (4,k.pos)
 else if gz n.text<1\/1000<gz n.text then .error (4,n.pos) else fI st (eI 10 (gz n.text) (a:Int) 0 0) k.pos
def jT (st:LSt)(k:Tok)(a:Nat)(i n:Tok):Rs (LSt×Nat):=
 if eU st a≠1 then .error (4,k.pos)
 else if gz n.text<1\/1000<gz n.text then .error (4,n.pos)
 else if gz n.text<=gz i.text then .error (4,i.pos) else fI st (eI 12 (gz n.text) (a:Int) 0 (gz i.text)) k.pos
def m6 (st:LSt)(o:Tok)(a b:Nat):Rs (LSt×Nat):=
 match iY st [a,b] o.pos with
 |.error f=>.error f
 |.ok (s2,f)=>fI s2 (eI (lq o.sym) (eU s2 (f.getD 0 0)) (f.getD 0 0:Nat) (f.getD 1 0:Nat) 0) o.pos
def m7 (st:LSt)(k:Tok)(a b:Nat):Rs (LSt×Nat):=
 match iY st [a,b] k.pos with
 |.error f=>.error f
 |.ok (s2,f)=>
  if k.sym=uZ then fI s2 (eI 7 (eU s2 (f.getD 0 0)) (f.getD 0 0:Nat) (f.getD 1 0:Nat) 0) k.pos
  else match fI s2 (eI 4 (eU s2 (f.getD 0 0)) (f.getD 0 0:Nat) (f.getD 1 0:Nat) 0) k.pos with
   |.error f=>.error f
   |.ok (s3,p)=>fI s3 (eI 9 1 (p:Int) 0 0) k.pos
def se (st:LSt)(k:Tok)(a b c:Nat):Rs (LSt×Nat):=
 match iY st [a,b,c] k.pos with
 |.error f=>.error f
 |.ok (s2,f)=>fI s2 (eI 8 (eU s2 (f.getD 0 0)) (f.getD 0 0:Nat) (f.getD 1 0:Nat) (f.getD 2 0:Nat)) k.pos
def mq (st:LSt)(k:Tok)(a x:Nat):Rs (LSt×Nat):=if eU st a≠1 then .error (4,k.pos) else gZ st (grM st.vs a x) k.pos
def mD (st:LSt)(k:Tok)(a x d:Nat):Rs (LSt×Nat):=
 if eU st d=1/\1<eU st x then
  match fI st (eI 10 (eU st x) (d:Int) 0 0) k.pos with
  |.error f=>.error f
  |.ok (s2,d2)=>gZ s2 (iy s2.vs a x d2) k.pos
 else if eU st d≠eU st x then .error (4,k.pos) else gZ st (iy st.vs a x d) k.pos
abbrev Loc:=List (List UInt8×Nat)
def iK (r:Option (Rs (LSt×Nat)))(f:LSt->Nat->Option (Rs (LSt×Nat))):Option (Rs (LSt×Nat)):=
 match r with
 |none=>none
 |some (.error e)=>some (.error e)
 |some (.ok (st,a))=>f st a
def fF (ev:LSt->Ex->Option (Rs (LSt×Nat))):LSt->List Ex->Option (Rs (LSt×List Nat))
 |st,[]=>some (.ok (st,[]))
 |st,e::r=>match ev st e with
  |none=>none
  |some (.error f)=>some (.error f)
  |some (.ok (s1,a))=>match fF ev s1 r with
   |none=>none
   |some (.error f)=>some (.error f)
   |some (.ok (s2,xs))=>some (.ok (s2,a::xs))
def eJ:Nat->LSt->Loc->Ex->Option (Rs (LSt×Nat))
 |0,_,_,_=>none
 |_+1,st,_,.num t=>some (fI st ⟨1,1,0,0,0,ll t.text⟩ t.pos)
 |_+1,st,loc,.name t=>some (match fh st loc t with|.error f=>.error f|.ok v=>.ok (st,v))
 |f+1,st,loc,.neg o e=>iK (eJ f st loc e) λs a=>some (fI s (eI 6 (eU s a) (a:Int) 0 0) o.pos)
 |f+1,st,loc,.bin o a b=>iK (eJ f st loc a) λs1 x=>iK (eJ f s1 loc b) λs2 y=>some (m6 s2 o x y)
 |f+1,st,loc,.call t es=>
  match ie st.names t.text with
  |some (.fn _ ps body)=>
   if ps.length=es.length then
    match fF (λs e=>eJ f s loc e) st es with
    |none=>none
    |some (.error e)=>some (.error e)
    |some (.ok (s1,xs))=>if 500<=s1.calls then some (.error (5,t.pos)) else eJ f {s1 with calls:=s1.calls+1} ((ps.map (·.text)).zip xs) body
   else some (.error (3,t.pos))
  |_=>some (.error (3,t.pos))
 |f+1,st,loc,.key1 k e=>iK (eJ f st loc e) λs a=>some (if k.sym=tG then fI s (eI 13 (eU s a) (a:Int) 0 0) k.pos else fI s (eI 9 1 (a:Int) 0 0) k.pos)
 |f+1,st,loc,.key2 k a b=>iK (eJ f st loc a) λs1 x=>iK (eJ f s1 loc b) λs2 y=>some (m7 s2 k x y)
 |f+1,st,loc,.key3 k a b c=>iK (eJ f st loc a) λs1 x=>iK (eJ f s1 loc b) λs2 y=>iK (eJ f s2 loc c) λs3 z=>some (se s3 k x y z)
 |f+1,st,loc,.keyN k e n=>iK (eJ f st loc e) λs a=>some (jS s k a n)
 |f+1,st,loc,.put k e i n=>iK (eJ f st loc e) λs a=>some (jT s k a i n)
 |f+1,st,loc,.grad k e x=>match fh st loc x with
  |.error q=>some (.error q)
  |.ok v=>iK (eJ f st loc e) λs a=>some (mq s k a v)
 |f+1,st,loc,.jvp k e x d=>match fh st loc x with
  |.error q=>some (.error q)
  |.ok v=>iK (eJ f st loc e) λs1 a=>iK (eJ f s1 loc d) λs2 y=>some (mD s2 k a v y)
end
section
open Go.RowKit Flt
attribute [local go_sem] eD eB eA
variable {w W' W'':World} {M':Nat->Prop} {P B g off m1 n e1 m3 e3 base cap vk:Nat} {v u4 c7 c8 c9 c10 c14 c16 c17 c18 c19:Value} {b1 b3 a2:Option Addr} {ts:List Tok} {vs:List Vl} {o ln va vb vc t z:Int} {R R':Option Nat}
structure Mv (M:Nat->Prop)(W:World)(M':Nat->Prop)(W':World):Prop where
 chg:Chg M W W'
 new:∀b,M' b->M b\/W.heap.size<=b
theorem Mv.refl (M:Nat->Prop)(W:World):Mv M W M W:=⟨(Kept.refl 0 0 W).chg,λ_ h=>.inl h⟩
theorem Mv.keep {M:Nat->Prop}{W W1 W2:World}(h:Mv M W M' W1)(k:Kept 0 0 W1 W2):Mv M W M' W2:=
 ⟨⟨k.os.trans h.chg.os,k.tape.trans h.chg.tape,k.output.trans h.chg.output,yan h.chg.size k.size,λi hi hn=>(k.block i (yaj hi h.chg.size) xaa).trans (h.chg.block i hi hn)⟩,h.new⟩
theorem Mv.of {M:Nat->Prop}{W:World}(k:Kept 0 0 W W'):Mv M W M W':=(Mv.refl M W).keep k
theorem Mv.trans {M M'':Nat->Prop}{W:World}(h:Mv M W M' W')(k:Mv M' W' M'' W''):Mv M W M'' W'' where
 chg:=⟨k.chg.os.trans h.chg.os,k.chg.tape.trans h.chg.tape,k.chg.output.trans h.chg.output,yan h.chg.size k.chg.size,λi hi hn=>(k.chg.block i (yaj hi h.chg.size) (λc=>(h.new i c).elim hn (λc=>by omega))).trans (h.chg.block i hi hn)⟩
 new:=λb hb=>(k.new b hb).elim (h.new b) (λc=>.inr (yan h.chg.size c))
theorem Mv.bad {M:Nat->Prop}{W:World}(h:Mv M W M' W')(k:Chg M' W' W''):Chg M W W'':=
 ⟨k.os.trans h.chg.os,k.tape.trans h.chg.tape,k.output.trans h.chg.output,yan h.chg.size k.size,λi hi hn=>(k.block i (yaj hi h.chg.size) (λc=>(h.new i c).elim hn (λc=>by omega))).trans (h.chg.block i hi hn)⟩
structure TkR (M:Nat->Prop)(W:World)(a:Option Addr)(n:Nat)(ts:List Tok):Prop where
 len:ts.length=n
 at_:0<n->∃g off,a=some ⟨g,off,none⟩/\¬M g/\TkA W g off n ts
theorem TkA.keepC {w':World}{S:Nat->Prop}(h:TkA w g off n ts)(k:Chg S w w')(hd:¬S g):TkA w' g off n ts:=
 ⟨h.len,yaj h.lt k.size,λj hj=>(k.cell (p:=⟨g,off+j*3,none⟩) h.lt hd).trans (h.c0 j hj),λj hj=>(k.cell (p:=⟨g,off+j*3+1,none⟩) h.lt hd).trans (h.c1 j hj),λj hj=>(k.cell (p:=⟨g,off+j*3+2,none⟩) h.lt hd).trans (h.c2 j hj)⟩
theorem TkR.mv {M:Nat->Prop}{W:World}{a:Option Addr}(h:TkR M W a n ts)(k:Mv M W M' W'):TkR M' W' a n ts:=
 ⟨h.len,λhn=>by
  obtain⟨g,off,e,h1,h2⟩:=h.at_ hn
  exact⟨g,off,e,λc=>(k.new g c).elim h1 (λc=>by have:=h2.lt;omega),h2.keepC k.chg h1⟩⟩
theorem pK (ts:List Tok)(i j k:Nat)(hk:k<j-i):((ts.drop i).take (j-i)).getD k Tok.zero=ts.getD (i+k) Tok.zero:=by
 exact xhs
theorem TkA.cut (h:TkA w g off n ts){i j:Nat}(hj:j<=n):TkA w g (off+i*3) (j-i) ((ts.drop i).take (j-i)):=by
 have hl:=h.len
 refine⟨by rw[List.length_take,List.length_drop];omega,h.lt,λk hk=>?_,λk hk=>?_,λk hk=>?_⟩
 ·rw[pK ts i j k hk,show off+i*3+k*3=off+(i+k)*3 by omega];exact h.c0 (i+k) xaa
 ·rw[pK ts i j k hk,show off+i*3+k*3=off+(i+k)*3 by omega];exact h.c1 (i+k) xaa
 ·rw[pK ts i j k hk,show off+i*3+k*3=off+(i+k)*3 by omega];exact h.c2 (i+k) xaa
structure Dgs (l:List UInt8):Prop where
 len:l.length<=15
 d:∀k,k<l.length->48<=bt l k/\bt l k<=57
def i9 (x:List UInt8):Prop:=rS (gc x)/\(gc x).countP dig<=15
structure TsOK (ts:List Tok):Prop where
 n5:ts.length<=5000
 ti:∀t∈ts,t.sym=gm->Dgs t.text
 tn:∀t∈ts,(t.sym=gm\/t.sym=iT)->i9 t.text
structure Bc where
 nm:List UInt8
 fn:Bool
 val:Int
 pa:Option Addr
 pn:Nat
 pc:Nat
 ba:Option Addr
 bn:Nat
 bc:Nat
def Bc.zero:Bc:=⟨[],false,0,none,0,0,none,0,0⟩
def Bc.cells (b:Bc):List Value:=[eE b.nm,.bool b.fn,.int .i64 b.val,.slice b.pa b.pn b.pc,.slice b.ba b.bn b.bc]
def bcF:List Bc->List Value
 |[]=>[]
 |b::r=>b.cells++bcF r
theorem sf (a b:List Bc):bcF (a++b)=bcF a++bcF b:=by
 induction a with
 |nil=>rfl
 |cons x r ih=>simp[bcF,ih]
theorem sh (b:Bc):bcF [b]=b.cells:=by simp[bcF]
theorem Ar:∀(a:List Bc) (k j:Nat),k<a.length->j<5->(bcF a)[k*5+j]? =(a.getD k Bc.zero).cells[j]?
 |x::r,0,j,_,hj=>by
  rw[bcF,Nat.zero_mul,Nat.zero_add,yas (by simp[Bc.cells];omega)];rfl
 |x::r,k+1,j,hk,hj=>by
  have hx:x.cells.length=5:=rfl
  rw[bcF,yar (by rw[hx];omega),hx,show(k+1)*5+j-5=k*5+j by omega]
  exact Ar r k j (by simpa using hk) hj
def BcOK (M:Nat->Prop)(W:World)(b:Bc):Bdg->Prop
 |.val nm v=>b.nm=nm/\b.fn=false/\b.val=(v:Int)
 |.fn nm ps e=>b.nm=nm/\b.fn=true/\TkR M W b.pa b.pn ps/\∃ts,Pr 2 [e] ts/\(TsOK ts/\b.bn<=b.bc)/\TkR M W b.ba b.bn ts
theorem BcOK.mv {M:Nat->Prop}{W:World}{b:Bc}{d:Bdg}(h:BcOK M W b d)(k:Mv M W M' W'):BcOK M' W' b d:=by
 cases d with
 |val nm v=>exact h
 |fn nm ps e=>
  obtain⟨h1,h2,h3,ts,h4,h5,h6⟩:=h
  exact⟨h1,h2,h3.mv k,ts,h4,h5,h6.mv k⟩
def Mst (P:Nat)(u1 u2 u3 u4:Value)(b:Nat):Prop:=b=P\/u1.ownBlock=some b\/u2.ownBlock=some b\/u3.ownBlock=some b\/u4.ownBlock=some b
structure WS (W:World)(P B:Nat)(u1 u2 u3 u4:Value)(bs:List Bc)(st:LSt):Prop where
 lt:P<W.heap.size
 fr:∀o,W.frozen? ⟨P,o,none⟩=false
 c0:W.cell? ⟨P,0,none⟩=some u1
 c1:W.cell? ⟨P,1,none⟩=some u2
 c2:W.cell? ⟨P,2,none⟩=some u3
 c3:W.cell? ⟨P,3,none⟩=some u4
 c4:W.cell? ⟨P,4,none⟩=some (.int .i64 (st.calls:Int))
 c5:W.cell? ⟨P,5,none⟩=some (.int .i64 0)
 c6:W.cell? ⟨P,6,none⟩=some (.int .i64 0)
 r1:W.ownsRow B 3 1 u1 st.ins.length (st.ins.map (Value.int .i64))
 r2:W.ownsRow B 35 6 u2 st.vs.length (fp st.vs)
 r3:W.ownsRow B 3 1 u3 st.outs.length (st.outs.map (Value.int .i64))
 r4:W.ownsRow B 108 5 u4 bs.length (bcF bs)
 np:u1.ownBlock≠some P/\u2.ownBlock≠some P/\u3.ownBlock≠some P/\u4.ownBlock≠some P
 ap:Apart u1 u2/\Apart u1 u3/\Apart u1 u4/\Apart u2 u3/\Apart u2 u4/\Apart u3 u4
 nl:bs.length=st.names.length
 nb:∀i,i<bs.length->BcOK (Mst P u1 u2 u3 u4) W (bs.getD i Bc.zero) (st.names.getD i (.val [] 0))
 sz:B<=P
theorem Apart.symm {u:Value}(h:Apart u v):Apart v u:=λk hk hu=>h k hu hk
theorem WS.keep {W:World}{u1 u2 u3:Value}{bs:List Bc}{st:LSt}(h:WS W P B u1 u2 u3 u4 bs st)(k:Kept 0 0 W W'):WS W' P B u1 u2 u3 u4 bs st:=by
 have e:∀o,W'.cell? ⟨P,o,none⟩=W.cell? ⟨P,o,none⟩:=λo=>k.cell (p:=⟨P,o,none⟩) h.lt xaa
 exact⟨yaj h.lt k.size,λo=>(k.frozen (p:=⟨P,o,none⟩) h.lt xaa).trans (h.fr o),(e 0).trans h.c0,(e 1).trans h.c1,(e 2).trans h.c2,(e 3).trans h.c3,(e 4).trans h.c4,(e 5).trans h.c5,(e 6).trans h.c6,eO h.r1 k,eO h.r2 k,eO h.r3 k,eO h.r4 k,h.np,h.ap,h.nl,λi hi=>(h.nb i hi).mv (Mv.of k),h.sz⟩
def TrO (W:World)(P B:Nat)(u1 u2 u3 u4:Value)(bs:List Bc)(r:Rs (LSt×Nat))(e:Ending)(W':World):Prop:=
 match r with
 |.error (c,p)=>e=.returned (.int .i64 (-1))/\W'.cell? ⟨P,5,none⟩=some (.int .i64 c)/\W'.cell? ⟨P,6,none⟩=some (.int .i64 (p:Int))/\Chg (Mst P u1 u2 u3 u4) W W'
 |.ok (st,v)=>e=.returned (.int .i64 (v:Int))/\∃v1 v2 v3 v4,WS W' P B v1 v2 v3 v4 bs st/\Mv (Mst P u1 u2 u3 u4) W (Mst P v1 v2 v3 v4) W'
structure Bad (W:World)(P:Nat)(M:Nat->Prop)(c:Int)(p:Nat)(W':World):Prop where
 c5:W'.cell? ⟨P,5,none⟩=some (.int .i64 c)
 c6:W'.cell? ⟨P,6,none⟩=some (.int .i64 (p:Int))
 chg:Chg M W W'
theorem iL {W:World}(h5:W.cell? ⟨P,5,none⟩=some (.int .i64 0))(h6:W.cell? ⟨P,6,none⟩=some (.int .i64 0))(fr:∀o,W.frozen? ⟨P,o,none⟩=false)(c:Int)(p:Nat)(M:Nat->Prop)(hM:M P):
  Calls prog 74 #[.pointer (some ⟨P,0,none⟩),.int .i64 c,.int .i64 (p:Int)] W λe W'=>e=.returned (.int .i64 (-1))/\Bad W P M c p W':=by
 have f5:=fr 5
 have f6:=fr 6
 have R1:Hid (((W.setCell ⟨P,5,none⟩ (.int .i64 c)).setCell ⟨P,6,none⟩ (.int .i64 (p:Int))).cell? ⟨P,5,none⟩=some (.int .i64 c)):=(eW _ _ _ _ _ _ (.inr xaa)).trans (fR _ _ _ _ _ h5)
 have R2:Hid (((W.setCell ⟨P,5,none⟩ (.int .i64 c)).setCell ⟨P,6,none⟩ (.int .i64 (p:Int))).cell? ⟨P,6,none⟩=some (.int .i64 (p:Int))):=fR _ _ _ _ _ ((eW _ _ _ _ _ _ (.inr xaa)).trans h6)
 have R3:Hid (Chg M W ((W.setCell ⟨P,5,none⟩ (.int .i64 c)).setCell ⟨P,6,none⟩ (.int .i64 (p:Int)))):=Chg.andThen ((eL (lo:=P) (hi:=P+1) W ⟨P,5,none⟩ (.int .i64 c) yac).chg1 hM) ((eL (lo:=P) (hi:=P+1) _ ⟨P,6,none⟩ (.int .i64 (p:Int)) yac).chg1 hM)
 clear fr hM
 go_enter func74,ntmps74
 go_wp2
 go_ret
 exact⟨rfl,R1.out,R2.out,R3.out⟩
theorem jU {W:World}{bs:List Bc}(f:W.ownsRow B 108 5 v bs.length (bcF bs))(h:0<bs.length):∃g cap,v=.slice (some ⟨g,0,none⟩) bs.length cap/\B<=g/\g<W.heap.size/\bs.length<=cap/\
  ∀k,k<bs.length->W.cell? ⟨g,k*5,none⟩=some (eE (bs.getD k Bc.zero).nm)/\W.cell? ⟨g,k*5+1,none⟩=some (.bool (bs.getD k Bc.zero).fn)/\W.cell? ⟨g,k*5+2,none⟩=some (.int .i64 (bs.getD k Bc.zero).val)/\W.cell? ⟨g,k*5+3,none⟩=some (.slice (bs.getD k Bc.zero).pa (bs.getD k Bc.zero).pn (bs.getD k Bc.zero).pc)/\W.cell? ⟨g,k*5+4,none⟩=some (.slice (bs.getD k Bc.zero).ba (bs.getD k Bc.zero).bn (bs.getD k Bc.zero).bc):=by
 rcases f.2 with⟨_,c⟩|⟨g,cap,cur,rfl,b1,b2,b3,_,b5,b6⟩
 ·omega
 ·have hg:g<W.heap.size:=by
   exact xbf
  have key:∀k j,k<bs.length->j<5->W.cell? ⟨g,k*5+j,none⟩=(bs.getD k Bc.zero).cells[j]?:=λk j hk hj=>by
   rw[cell_of_row W g _ cur _ _ b2,<-Array.getElem?_toList]
   have:(cur.toList.take (bs.length*5))[k*5+j]? =(bcF bs)[k*5+j]?:=by rw[b6]
   rw[List.getElem?_take_of_lt xaa] at this
   rw[this]
   exact Ar bs k j hk hj
  exact⟨g,cap,rfl,b1,hg,b3,λk hk=>⟨key k 0 hk xaa,key k 1 hk xaa,key k 2 hk xaa,key k 3 hk xaa,key k 4 hk xaa⟩⟩
theorem iM {W:World}{bs:List Bc}(f:W.ownsRow B 108 5 v bs.length (bcF bs)):∃a cap,v=.slice a bs.length cap:=by
 exact xep
def Ik (bs:List Bc)(s:List UInt8)(r:Int):Prop:=(∃k:Nat,k<bs.length/\r=(k:Int)/\(bs.getD k Bc.zero).nm=s/\∀j,j<k->(bs.getD j Bc.zero).nm≠s)\/(r=-1/\∀j,j<bs.length->(bs.getD j Bc.zero).nm≠s)
theorem nQ {W:World}{bs:List Bc}(c3:W.cell? ⟨P,3,none⟩=some u4)(f:W.ownsRow B 108 5 u4 bs.length (bcF bs))(hl:bs.length<=100000)(s:List UInt8):
  Calls prog 76 #[.pointer (some ⟨P,0,none⟩),eE s] W λe W'=>∃r,e=.returned (.int .i64 r)/\Ik bs s r/\W'=W:=by
 have HA:Hid (0<bs.length->_):=jU f
 obtain⟨a,cap,rfl⟩:=iM f
 clear f
 generalize hn:bs.length=n at hl c3 HA
 have HN:Hid (bs.length=n):=hn
 clear hn
 go_enter func76,ntmps76
 go_wp2_with fail
 go_loopw [5] (λiv W'=>W'=W/\∃k:Nat,k<=n/\iv=.int .i64 k/\Hid (∀j,j<k->(bs.getD j Bc.zero).nm≠s)) (λiv _=>n-(intOf iv).toNat)
 case atStart=>exact⟨rfl,0,Nat.zero_le _,rfl,λj hj=>by omega⟩
 case round=>
  obtain⟨rfl,k,hk,rfl,hK⟩:=hrel
  by_cases hlt:k<n
  ·obtain⟨g,cp,e,_,_,_,h6⟩:=HA.out xaa
   cases e
   have c1:=(h6 k hlt).1
   have HK:Hid (∀x,(bs.getD k Bc.zero).nm=x->x=s->(bs.getD k Bc.zero).nm=s):=λx h1 h2=>h1.trans h2
   generalize hx:(bs.getD k Bc.zero).nm=x at c1
   have HX:Hid ((bs.getD k Bc.zero).nm=x):=hx
   clear hx h6
   cases hq:(x==s)
   ·have R:Hid (∀j,j<k+1->(bs.getD j Bc.zero).nm≠s):=λj hj=>by
     by_cases c:j=k
     ·subst c;rw[HX.out];intro d;rw[d] at hq;simp at hq
     ·exact hK.out j xaa
    go_wp2_with fail
    exact xcy
   ·have R:Hid ((bs.getD k Bc.zero).nm=s):=by show _=_;rw[HX.out];simpa using hq
    go_wp2_with fail
    go_ret
    exact⟨_,rfl,.inl ⟨k,by rw[HN.out];exact hlt,rfl,R.out,hK.out⟩,rfl⟩
  ·obtain rfl:k=n:=xaa
   go_wp2_with fail
   go_ret
   exact⟨_,rfl,.inr ⟨rfl,by rw[HN.out];exact hK.out⟩,rfl⟩
theorem As (s:List UInt8)(w:World):Calls prog 109 #[eE s] w λe w'=>e=.returned (.int .i64 (lq s))/\w'=w:=by
 unfold lq
 by_cases h0:s=[43]
 ·rw[if_pos h0]
  have t0:(s==[43])=true:=by rw[h0];rfl
  clear h0
  exact xfq
 ·rw[if_neg h0]
  have t0:(s==[43])=false:=yaw h0
  by_cases h1:s=[45]
  ·rw[if_pos h1]
   have t1:(s==[45])=true:=by rw[h1];rfl
   clear h0 h1
   exact xfq
  ·rw[if_neg h1]
   have t1:(s==[45])=false:=yaw h1
   by_cases h2:s=[42]
   ·rw[if_pos h2]
    have t2:(s==[42])=true:=by rw[h2];rfl
    exact xio
   ·rw[if_neg h2]
    have t2:(s==[42])=false:=yaw h2
    exact xio
theorem pL (x y:List UInt8)(q:OpS)(ts:List Tok)(k:Nat)(h:k<ts.length):iJ x y q (ts.take (k+1))=gF x y (iJ x y q (ts.take k)) (ts.getD k Tok.zero):=by
 rw[yat h,fd,yah,yal h];rfl
theorem Il (x y:List UInt8):∀(ts:List Tok) (q:OpS),(iJ x y q ts).i=q.i+ts.length
 |[],q=>rfl
 |t::ts,q=>by
  rw[eF,Il x y ts,yap]
  have:(gF x y q t).i=q.i+1:=by unfold gF;split;rfl;split<;>rfl
  omega
theorem Im (x y:List UInt8):∀(ts:List Tok) (q:OpS),q.d-ts.length<=(iJ x y q ts).d/\(iJ x y q ts).d<=q.d+ts.length
 |[],q=>by rw[fy];simp
 |t::ts,q=>by
  rw[eF,yap]
  have h1:=Im x y ts (gF x y q t)
  have h2:q.d-1<=(gF x y q t).d/\(gF x y q t).d<=q.d+1:=by
   unfold gF
   split
   ·simp only;omega
   ·split
    ·simp only;omega
    ·simp only;omega
  omega
theorem I6 (x y:List UInt8)(q:OpS)(t:Tok):(gF x y q t).b=gW t.sym:=by unfold gF;split;rfl;split<;>rfl
theorem Au {W:World}{d:Int}{c0 c1 c2 c5 c6:Value}(HM:Hid (MS w W b1 m1 e1 b3 m3 e3 vs ⟨o,ln,va,vb,vc,vk⟩ base R R' a2 cap))(hbd:vs.length<=900000):PfC 27 W (MpR w b1 m1 e1 b3 m3 e3 vs ⟨o,ln,va,vb,vc,vk⟩ base R (eI 8 ln t d z)) c0 c1 c2 (.int .i64 d) (.pointer (some ⟨w.heap.size,0,none⟩)) c5 c6 c7 c8 c9 c10 (.pointer (some ⟨w.heap.size+1+1,0,none⟩)) (.int .i64 ln) (.int .i64 t) c14 (.int .i64 z) c16 c17 c18 c19 c9 c10:=by
 unfold PfC
 intros
 rename_i HK
 have HC:Hid (∀W1,Kept 0 0 W W1->_):=λW1 k=>MS.call HM.out k (eI 8 ln t d z) xaa
 exact xae
theorem Av {W:World}{d:Int}{c0 c1 c2 c5 c6:Value}(HM:Hid (MS w W b1 m1 e1 b3 m3 e3 vs ⟨o,ln,va,vb,vc,vk⟩ base R R' a2 cap))(hbd:vs.length<=900000):PfC 28 W (MpR w b1 m1 e1 b3 m3 e3 vs ⟨o,ln,va,vb,vc,vk⟩ base R (eI 8 ln t z d)) c0 c1 c2 (.int .i64 d) (.pointer (some ⟨w.heap.size,0,none⟩)) c5 c6 c7 c8 c9 c10 (.pointer (some ⟨w.heap.size+1+1,0,none⟩)) (.int .i64 ln) (.int .i64 t) c14 (.int .i64 z) c16 c17 c18 c19 c9 c10:=by
 unfold PfC
 intros
 rename_i HK
 have HC:Hid (∀W1,Kept 0 0 W W1->_):=λW1 k=>MS.call HM.out k (eI 8 ln t z d) xaa
 exact xae
theorem Gf {W:World}{d:Int}{c0 c1 c2 c5 c6 c12 c13 c15:Value}(HM:Hid (MS w W b1 m1 e1 b3 m3 e3 vs ⟨o,ln,va,vb,vc,vk⟩ base R R' a2 cap))(hbd:vs.length<=900000):PfC 36 W (MpR w b1 m1 e1 b3 m3 e3 vs ⟨o,ln,va,vb,vc,vk⟩ base R (eI 11 1 d 0 vc)) c0 c1 c2 (.int .i64 d) (.pointer (some ⟨w.heap.size,0,none⟩)) c5 c6 c7 c8 c9 c10 (.pointer (some ⟨w.heap.size+1+1,0,none⟩)) c12 c13 c14 c15 c16 c17 c18 c19 c9 c10:=by
 unfold PfC
 intros
 rename_i HK
 have HC:Hid (∀W1,Kept 0 0 W W1->_):=λW1 k=>MS.call HM.out k (eI 11 1 d 0 vc) xaa
 have s0:=HM.out.g.c0
 have s1:=HM.out.g.c1
 have s2:=HM.out.g.c2
 exact xct
