import Derived.Test.YtgamjhpebmmjcaaGreatDoorP23
import Derived.Test.YtgamjhpebmmjcaaGreatDoorP22
import Derived.Deep.Cut
import Derived.Test.YtgamjhpebmmjcaaGreatDoorP28
import Derived.Test.YtgamjhpebmmjcaaGreatDoorP27
import Derived.Test.YtgamjhpebmmjcaaGreatDoorP06
import Derived.Maps.OwnSet
import Derived.Test.YtgamjhpebmmjcaaGreatDoorP09
import Derived.Recover
namespace Go.Proofs.YtgamjhpebmmjcaaGreatDoor
set_option maxRecDepth 100000
set_option maxHeartbeats 40000000
open Go.RowKit Flt
def marksL:List (List UInt8):=[[43],[45],[42],[47],[40],[41],[44],[59],[58],[61]]
def TkC (k:Tok):Prop:=k.sym=[]∨(k.sym=sName∧kindM k.text=2)∨(k.sym=sInt∧kindM k.text=4)∨(k.sym=sDec∧kindM k.text=5)∨(k.sym=k.text∧k.text∈keysL)∨(k.sym=k.text∧k.text∈marksL)
theorem kind_key:∀s∈keysL,kindM s=3:=by decide
theorem kind_mark:∀s∈marksL,kindM s=6:=by decide
theorem key_let:∀s∈keysL,letB (bt s 0)=true:=by decide
theorem let_mrk:∀n:Nat,n<128→letB (n:Int)=true→mrkB (n:Int)=false:=by decide
theorem dig_mrk:∀n:Nat,n<128→dig (n:Int)=true→mrkB (n:Int)=false∧letB (n:Int)=false:=by decide
theorem bt_nat (t:List UInt8)(i:Nat):∃n:Nat,bt t i=(n:Int):=⟨_,rfl⟩
theorem let_mrkI {t:List UInt8}{i:Nat}(h:letB (bt t i)=true):mrkB (bt t i)=false:=by
 obtain⟨n,e⟩:=bt_nat t i
 rw[e] at h ⊢
 refine let_mrk n ?_ h
 unfold letB at h
 simp at h
 omega
theorem dig_mrkI {t:List UInt8}{i:Nat}(h:dig (bt t i)=true):mrkB (bt t i)=false∧letB (bt t i)=false:=by
 obtain⟨n,e⟩:=bt_nat t i
 rw[e] at h ⊢
 refine dig_mrk n ?_ h
 have:=dig_true h
 omega
theorem mem_point (s:List UInt8):(46:UInt8)∈s↔∃k,k<s.length∧bt s k=46:=by
 constructor
 ·intro h
  obtain⟨k,hk,e⟩:=List.getElem_of_mem h
  refine⟨k,hk,?_⟩
  unfold bt
  rw[List.getD_eq_getElem?_getD,List.getElem?_eq_getElem hk,e]
  rfl
 ·rintro⟨k,hk,e⟩
  unfold bt at e
  rw[List.getD_eq_getElem?_getD,List.getElem?_eq_getElem hk] at e
  simp only[Option.getD_some] at e
  have e2:s[k]=46:=by
   apply UInt8.toNat_inj.1
   have:(46:UInt8).toNat=46:=rfl
   omega
  rw[←e2]
  exact List.getElem_mem _
theorem nx_cls {t:List UInt8}{i:Nat}(hi:i<t.length):TkC (nxT t i):=by
 unfold nxT
 by_cases hl:letB (bt t i)=true
 ·rw[if_pos hl]
  have hgt:=runE_gt (p:=wrdB) hi (by unfold wrdB;rw[hl];rfl)
  have hle:=runE_le wrdB t i (by omega)
  have h0:bt (cutT t i (runE wrdB t i)) 0=bt t i:=by rw[bt_cut (by omega),Nat.add_zero]
  unfold TkC wordSym
  simp only
  by_cases hk:cutT t i (runE wrdB t i)∈keysL
  ·rw[if_pos hk]
   exact .inr (.inr (.inr (.inr (.inl ⟨rfl,hk⟩))))
  ·rw[if_neg hk]
   refine .inr (.inl ⟨rfl,?_⟩)
   unfold kindM keyB
   rw[h0,if_neg (by rw[let_mrkI hl];decide),if_neg (by rw[decide_eq_true_eq];exact hk),if_pos hl]
 ·rw[if_neg hl]
  by_cases hd:dig (bt t i)=true
  ·rw[if_pos hd]
   have hle:=numE_le hi
   have hgt:=numE_gt hi hd
   have h0:bt (cutT t i (numE t i)) 0=bt t i:=by rw[bt_cut (by omega),Nat.add_zero]
   have hlen:=cutT_len (t:=t) (i:=i) hle
   have hnk:cutT t i (numE t i)∉keysL:=fun h=>by
    have:=key_let _ h
    rw[h0,(dig_mrkI hd).2] at this
    cases this
   have hE:=runE_gt (p:=dig) hi hd
   have hEl:=runE_le dig t i (by omega)
   have hkind:kindM (cutT t i (numE t i))=if (46:UInt8)∈cutT t i (numE t i) then 5 else 4:=by
    unfold kindM keyB
    rw[h0,if_neg (by rw[(dig_mrkI hd).1];decide),if_neg (by rw[decide_eq_true_eq];exact hnk),if_neg hl]
   unfold TkC numSym
   simp only
   by_cases c:runE dig t i+1<t.length∧bt t (runE dig t i)=46∧dig (bt t (runE dig t i+1))=true
   ·rw[if_pos c]
    refine .inr (.inr (.inr (.inl ⟨rfl,?_⟩)))
    have e:numE t i=runE dig t (runE dig t i+1):=by unfold numE;rw[if_pos c]
    have hE2:=runE_gt (p:=dig) c.1 c.2.2
    rw[←e] at hE2
    rw[hkind,if_pos]
    rw[mem_point]
    refine⟨runE dig t i-i,by omega,?_⟩
    rw[bt_cut (by omega),show i+(runE dig t i-i)=runE dig t i by omega]
    exact c.2.1
   ·rw[if_neg c]
    refine .inr (.inr (.inl ⟨rfl,?_⟩))
    have e:numE t i=runE dig t i:=by unfold numE;rw[if_neg c]
    rw[hkind,if_neg]
    rw[mem_point]
    rintro⟨k,hk,h46⟩
    rw[hlen] at hk
    rw[bt_cut hk] at h46
    have:=runE_all (p:=dig) i (i+k) (by omega) (by rw[←e];omega)
    rw[h46] at this
    revert this
    decide
  ·rw[if_neg hd]
   unfold TkC markSym
   simp only
   by_cases hm:t.getD i 0∈onesL
   ·rw[if_pos hm]
    have hx:∀x∈onesL,[x]∈marksL:=by decide
    exact .inr (.inr (.inr (.inr (.inr ⟨trivial,hx _ hm⟩))))
   ·rw[if_neg hm]
    exact .inl rfl
theorem toks_cls (t:List UInt8)(i:Nat):∀tk∈toksM t i,TkC tk:=by
 intro tk hm
 rw[toksM] at hm
 split at hm
 ·rename_i h
  split at hm
  ·simp only[List.mem_singleton] at hm
   subst hm
   exact nx_cls h
  ·rcases List.mem_cons.1 hm with c|c
   ·subst c;exact nx_cls h
   ·exact toks_cls t (skM t (nxE t i)) tk c
 ·cases hm
termination_by t.length-i
decreasing_by
 have:=nxE_gt ‹i<t.length›
 have:=skM_ge t (nxE t i)
 omega
def Tl (t:List UInt8)(ts:List Tok):List PTk:=ts.map cvT++clT t ts
def hdP (n:Nat):List Tok→PTk
 |[]=>⟨0,[],n⟩
 |k::_=>cvT k
def posM (n:Nat):List Tok→Nat
 |[]=>n
 |k::_=>k.pos
theorem tl_hd (t:List UInt8)(ts:List Tok):∃r,Tl t ts=hdP t.length ts::r:=by
 cases ts with
 |nil=>exact⟨[],rfl⟩
 |cons k r=>exact⟨r.map cvT++clT t (k::r),rfl⟩
theorem tl_cons {t:List UInt8}{k:Tok}{us:List Tok}(h:k.sym≠[]):Tl t (k::us)=cvT k::Tl t us:=by
 unfold Tl
 rw[clT_cons h]
 rfl
theorem cv_at (k:Tok):(cvT k).at_=k.pos:=by unfold cvT;split<;>rfl
theorem hd_at (n:Nat)(ts:List Tok):(hdP n ts).at_=posM n ts:=by
 cases ts with
 |nil=>rfl
 |cons k r=>exact cv_at k
def specL:List (List UInt8):=keysL++marksL
theorem spec_kind:∀s∈specL,kindM s=3∨kindM s=6:=by decide
theorem spec_no:∀s∈specL,s≠[]∧s≠sName∧s≠sInt∧s≠sDec∧s≠sEnd:=by decide
theorem spec_part:∀s∈specL,isPartB s=false:=by decide
theorem key_mark:∀s∈marksL,s∉keysL:=by decide
theorem cv_text {k:Tok}(hc:TkC k){x:List UInt8}(hx:x∈specL):(cvT k).text=x↔k.sym=x:=by
 have hk:=spec_kind x hx
 have hn:=spec_no x hx
 unfold cvT
 rcases hc with c|⟨c,d⟩|⟨c,d⟩|⟨c,d⟩|⟨c,d⟩|⟨c,d⟩
 ·rw[if_pos c,c]
 ·rw[if_neg (by rw[c];decide),c]
  simp only
  constructor
  ·rintro rfl;rw[d] at hk;omega
  ·intro e;exact absurd e.symm hn.2.1
 ·rw[if_neg (by rw[c];decide),c]
  simp only
  constructor
  ·rintro rfl;rw[d] at hk;omega
  ·intro e;exact absurd e.symm hn.2.2.1
 ·rw[if_neg (by rw[c];decide),c]
  simp only
  constructor
  ·rintro rfl;rw[d] at hk;omega
  ·intro e;exact absurd e.symm hn.2.2.2.1
 ·have:k.sym≠[]:=by rw[c];exact(spec_no _ (List.mem_append_left _ d)).1
  rw[if_neg this,c]
 ·have:k.sym≠[]:=by rw[c];exact(spec_no _ (List.mem_append_right _ d)).1
  rw[if_neg this,c]
theorem cv_kind {k:Tok}(hc:TkC k):((cvT k).kind=2↔k.sym=sName)∧((cvT k).kind=4↔k.sym=sInt)∧((cvT k).kind=5↔k.sym=sDec)∧((cvT k).kind=3↔k.sym∈keysL)∧(cvT k).kind≠0:=by
 unfold cvT
 rcases hc with c|⟨c,d⟩|⟨c,d⟩|⟨c,d⟩|⟨c,d⟩|⟨c,d⟩
 ·rw[if_pos c,c]
  show((1:Int)=2↔[]=sName)∧((1:Int)=4↔[]=sInt)∧((1:Int)=5↔[]=sDec)∧((1:Int)=3↔[]∈keysL)∧(1:Int)≠0
  decide
 ·rw[if_neg (by rw[c];decide),c];simp only;rw[d];decide
 ·rw[if_neg (by rw[c];decide),c];simp only;rw[d];decide
 ·rw[if_neg (by rw[c];decide),c];simp only;rw[d];decide
 ·have hn:=spec_no _ (List.mem_append_left marksL d)
  rw[if_neg (by rw[c];exact hn.1),c]
  simp only
  rw[kind_key _ d]
  exact⟨⟨fun h=>by omega,fun h=>absurd h hn.2.1⟩,⟨fun h=>by omega,fun h=>absurd h hn.2.2.1⟩,⟨fun h=>by omega,fun h=>absurd h hn.2.2.2.1⟩,⟨fun _=>d,fun _=>rfl⟩,by omega⟩
 ·have hn:=spec_no _ (List.mem_append_right keysL d)
  rw[if_neg (by rw[c];exact hn.1),c]
  simp only
  rw[kind_mark _ d]
  exact⟨⟨fun h=>by omega,fun h=>absurd h hn.2.1⟩,⟨fun h=>by omega,fun h=>absurd h hn.2.2.1⟩,⟨fun h=>by omega,fun h=>absurd h hn.2.2.2.1⟩,⟨fun h=>by omega,fun h=>absurd h (key_mark _ d)⟩,by omega⟩
theorem hd_text {n:Nat}{ts:List Tok}(hc:∀k∈ts,TkC k){x:List UInt8}(hx:x∈specL):(hdP n ts).text=x↔hdS ts=x:=by
 cases ts with
 |nil=>
  have hn:=spec_no x hx
  exact⟨fun e=>absurd e.symm hn.1,fun e=>absurd e.symm hn.2.2.2.2⟩
 |cons k r=>exact cv_text (hc k (List.mem_cons_self ..)) hx
theorem hd_kind {n:Nat}{ts:List Tok}(hc:∀k∈ts,TkC k):((hdP n ts).kind=2↔hdS ts=sName)∧((hdP n ts).kind=4↔hdS ts=sInt)∧((hdP n ts).kind=5↔hdS ts=sDec)∧((hdP n ts).kind=3↔hdS ts∈keysL)∧((hdP n ts).kind=0↔ts=[]):=by
 cases ts with
 |nil=>
  show((0:Int)=2↔sEnd=sName)∧((0:Int)=4↔sEnd=sInt)∧((0:Int)=5↔sEnd=sDec)∧((0:Int)=3↔sEnd∈keysL)∧((0:Int)=0↔([]:List Tok)=[])
  exact⟨by decide,by decide,by decide,by decide,⟨fun _=>rfl,fun _=>rfl⟩⟩
 |cons k r=>
  obtain⟨h1,h2,h3,h4,h5⟩:=cv_kind (hc k (List.mem_cons_self ..))
  exact⟨h1,h2,h3,h4,⟨fun h=>absurd h h5,fun h=>by cases h⟩⟩
theorem wrong_yes {n:Nat}{s:List UInt8}(hp:isPartB s=false){k:Tok}{us:List Tok}(h:k.sym=s)(r:List (List UInt8)):wrongM n (k::us) (s::r)=wrongM n us r:=by
 rw[wrongM,settle_tok hp]
 simp only
 rw[if_pos h.symm]
theorem wrong_no {n:Nat}{s:List UInt8}(hp:isPartB s=false){ts:List Tok}(h:hdS ts≠s)(r:List (List UInt8)):wrongM n ts (s::r)=(posM n ts:Int):=by
 cases ts with
 |nil=>rw[wrongM,settle_tok hp,if_neg (by simp)];rfl
 |cons k us=>
  rw[wrongM,settle_tok hp]
  simp only
  rw[if_neg (fun e=>h e.symm)]
  rfl
theorem hd_cons {ts:List Tok}{s:List UInt8}(h:hdS ts=s)(hs:s≠sEnd):∃k us,ts=k::us∧k.sym=s:=by
 cases ts with
 |nil=>exact absurd h.symm hs
 |cons k us=>exact⟨k,us,rfl,h⟩
end Go.Proofs.YtgamjhpebmmjcaaGreatDoor
namespace Go.Proofs.YtgamjhpebmmjcaaGreatDoor
set_option maxRecDepth 100000
set_option maxHeartbeats 40000000
open Go.RowKit Flt
attribute [local go_sem] alloc_drewN setCell_drewN run_store_float
structure Pe where
 P:Nat
 g:Nat
 cap:Nat
 T:List PTk
 t:List UInt8
 N:Nat
def tkV (k:PTk):Value:=.agg #[.int .i64 k.kind,strL k.text,.int .i64 (k.at_:Int)]
structure PsI (E:Pe)(W:World)(i:Nat)(ts:List Tok):Prop where
 c0:W.cell? ⟨E.P,0,none⟩=some (.slice (some ⟨E.g,0,none⟩) E.T.length E.cap)
 c1:W.cell? ⟨E.P,1,none⟩=some (.int .i64 (i:Int))
 fz:W.frozen? ⟨E.P,1,none⟩=false
 tk:∀j k,E.T[j]? =some k→W.cell? ⟨E.g,j*3,none⟩=some (.int .i64 k.kind)∧W.cell? ⟨E.g,j*3+1,none⟩=some (strL k.text)∧W.cell? ⟨E.g,j*3+2,none⟩=some (.int .i64 (k.at_:Int))
 dr:E.T.drop i=Tl E.t ts
 cl:∀k∈ts,TkC k
 len:E.T.length≤4001
 PN:E.P<E.N
 gN:E.g<E.N
 gP:E.g≠E.P
 NW:E.N≤W.heap.size
def Ps (E:Pe)(W:World)(ts:List Tok):Prop:=∃i,PsI E W i ts
abbrev Ch (E:Pe)(w w':World):Prop:=Chg (fun b=>b=E.P) w w'
theorem PsI.far {E:Pe}{W W':World}{i:Nat}{ts:List Tok}{S:Nat→Prop}(f:PsI E W i ts)(k:Chg S W W')(hS:∀b,S b→E.N≤b):PsI E W' i ts:=by
 have hP:=Nat.lt_of_lt_of_le f.PN f.NW
 have hg:=Nat.lt_of_lt_of_le f.gN f.NW
 have nP:¬S E.P:=fun c=>by have:=hS _ c;have:=f.PN;omega
 have ng:¬S E.g:=fun c=>by have:=hS _ c;have:=f.gN;omega
 refine⟨?_,?_,?_,fun j q h=>?_,f.dr,f.cl,f.len,f.PN,f.gN,f.gP,Nat.le_trans f.NW k.size⟩
 ·rw[k.cell hP nP];exact f.c0
 ·rw[k.cell hP nP];exact f.c1
 ·rw[k.frozen hP nP];exact f.fz
 ·rw[k.cell hg ng,k.cell hg ng,k.cell hg ng];exact f.tk j q h
theorem PsI.keep {E:Pe}{W W':World}{i:Nat}{ts:List Tok}(f:PsI E W i ts)(k:Kept 0 0 W W'):PsI E W' i ts:=f.far (k.chg (S:=fun _=>False)) (fun _ h=>h.elim)
theorem Ps.keep {E:Pe}{W W':World}{ts:List Tok}(f:Ps E W ts)(k:Kept 0 0 W W'):Ps E W' ts:=by
 obtain⟨i,h⟩:=f
 exact⟨i,h.keep k⟩
theorem PsI.at {E:Pe}{W:World}{i:Nat}{ts:List Tok}(f:PsI E W i ts):E.T[i]? =some (hdP E.t.length ts)∧i<E.T.length:=by
 obtain⟨r,hr⟩:=tl_hd E.t ts
 have h:=f.dr
 rw[hr] at h
 have h1:(E.T.drop i)[0]? =some (hdP E.t.length ts):=by rw[h];rfl
 rw[List.getElem?_drop,Nat.add_zero] at h1
 exact⟨h1,(List.getElem?_eq_some_iff.1 h1).1⟩
theorem PsI.take {E:Pe}{W:World}{i:Nat}{k:Tok}{us:List Tok}(f:PsI E W i (k::us))(hk:k.sym≠[]):PsI E (W.setCell ⟨E.P,1,none⟩ (.int .i64 ((i:Int)+1))) (i+1) us:=by
 have hP:=Nat.lt_of_lt_of_le f.PN f.NW
 have n1:(⟨E.P,1,none⟩:Addr)≠⟨E.P,0,none⟩:=by simp
 have n2:∀j,(⟨E.P,1,none⟩:Addr)≠⟨E.g,j,none⟩:=fun j c=>by
  have:=congrArg Addr.block c
  exact f.gP this.symm
 refine⟨?_,?_,?_,fun j q h=>?_,?_,fun x hx=>f.cl x (List.mem_cons_of_mem _ hx),f.len,f.PN,f.gN,f.gP,by simpa[go_sem] using f.NW⟩
 ·rw[World.cell?_setCell_other (h:=n1)];exact f.c0
 ·rw[World.cell?_setCell_same (h:=f.c1)];simp
 ·rw[World.frozen?_setCell];exact f.fz
 ·rw[World.cell?_setCell_other (h:=n2 _),World.cell?_setCell_other (h:=n2 _),World.cell?_setCell_other (h:=n2 _)];exact f.tk j q h
 ·have h:=f.dr
  rw[tl_cons hk] at h
  rw[←List.drop_drop,h]
  rfl
theorem fld0 (x y z:Value)(w:World):Sem.run Tryz.prog (Instr.field 106 (.agg #[x,y,z]) 0) w=.ok x w:=by kernel_rfl
theorem fld1 (x y z:Value)(w:World):Sem.run Tryz.prog (Instr.field 106 (.agg #[x,y,z]) 1) w=.ok y w:=by kernel_rfl
theorem fld2 (x y z:Value)(w:World):Sem.run Tryz.prog (Instr.field 106 (.agg #[x,y,z]) 2) w=.ok z w:=by kernel_rfl
theorem mkF (fn:Fn)(first cap:Array Value)(w:World):Sem.run Tryz.prog (Instr.makeFunc fn first cap) w=.ok (.func fn first cap) w:=rfl
abbrev Thr (c p:Int):Ending:=.panicked [{v:=.iface 70 (.agg #[.int .i64 c,.int .i64 p]),recovered:=false}]
theorem stopS (c p:Int)(w:World):Calls Tryz.prog 60 #[.int .i64 c,.int .i64 p] w fun e w'=>e=Thr c p∧w'=w:=by
 go_enter Tryz.func60,Tryz.ntmps60
 go_wp2
 exact⟨rfl,rfl,rfl⟩
theorem peekI {E:Pe}{w:World}{i:Nat}{ts:List Tok}(f:PsI E w i ts):Calls Tryz.prog 57 #[.pointer (some ⟨E.P,0,none⟩)] w fun e w'=>e=.returned (tkV (hdP E.t.length ts))∧Kept 0 0 w w':=by
 obtain⟨h1,h2⟩:=f.at
 obtain⟨q0,q1,q2⟩:=f.tk i _ h1
 have c0:=f.c0
 have c1:=f.c1
 have hP:E.P<w.heap.size:=Nat.lt_of_lt_of_le f.PN f.NW
 have hg:E.g<w.heap.size:=Nat.lt_of_lt_of_le f.gN f.NW
 have hn:=f.len
 clear f h1
 generalize hdP E.t.length ts=k at q0 q1 q2 ⊢
 obtain⟨P,g,cap,T,t,N⟩:=E
 simp only at*
 generalize T.length=n at*
 obtain⟨kk,kt,ka⟩:=k
 simp only at q0 q1 q2
 unfold tkV
 simp only
 go_enter Tryz.func57,Tryz.ntmps57
 go_upto_region 1 with fail
 go_region
 go_wp2
 refine bodyPost_ret (v:=.agg #[.int .i64 kk,strL kt,.int .i64 (ka:Int)]) (by simp[results,Tryz.results57,go_sem]) rfl ?_
 exact⟨rfl,(kept_alloc 0 0 w _).drew⟩
theorem Ps.far {E:Pe}{W W':World}{ts:List Tok}{S:Nat→Prop}(f:Ps E W ts)(k:Chg S W W')(hS:∀b,S b→E.N≤b):Ps E W' ts:=by
 obtain⟨i,h⟩:=f
 exact⟨i,h.far k hS⟩
theorem box_at {S:Nat→Prop}(w W':World)(xs:Array Value)(T:TypeId)(k:Chg S (w.alloc (.cells xs T)) W')(hS:¬S w.heap.size):(∀o,W'.cell? ⟨w.heap.size,o,none⟩=xs[o]?)∧(∀o,W'.frozen? ⟨w.heap.size,o,none⟩=false)∧w.heap.size<W'.heap.size:=by
 have h1:w.heap.size<(w.alloc (.cells xs T)).heap.size:=by simp
 refine⟨fun o=>?_,fun o=>?_,Nat.lt_of_lt_of_le h1 k.size⟩
 ·rw[k.cell h1 hS,World.cell?_alloc_new]
 ·rw[k.frozen h1 hS]
  simp[World.frozen?,World.alloc,-World.alloc_eq]
theorem cell_far {w:World}{a:Addr}{v:Value}{b o:Nat}(h:a.block≠b):(w.setCell a v).cell? ⟨b,o,none⟩=w.cell? ⟨b,o,none⟩:=World.cell?_setCell_far w a ⟨b,o,none⟩ v h
theorem box3_set (w:World)(b:Nat)(x y z:Value)(h0:(w.cell? ⟨b,0,none⟩).isSome=true)(h1:(w.cell? ⟨b,1,none⟩).isSome=true)(h2:(w.cell? ⟨b,2,none⟩).isSome=true)(hb:b<w.heap.size):
  (((w.setCell ⟨b,0,none⟩ x).setCell ⟨b,1,none⟩ y).setCell ⟨b,2,none⟩ z).cell? ⟨b,0,none⟩=some x∧(((w.setCell ⟨b,0,none⟩ x).setCell ⟨b,1,none⟩ y).setCell ⟨b,2,none⟩ z).cell? ⟨b,1,none⟩=some y∧(((w.setCell ⟨b,0,none⟩ x).setCell ⟨b,1,none⟩ y).setCell ⟨b,2,none⟩ z).cell? ⟨b,2,none⟩=some z∧b<(((w.setCell ⟨b,0,none⟩ x).setCell ⟨b,1,none⟩ y).setCell ⟨b,2,none⟩ z).heap.size∧Chg (fun i=>i=b) w (((w.setCell ⟨b,0,none⟩ x).setCell ⟨b,1,none⟩ y).setCell ⟨b,2,none⟩ z):=by
 have n1:(⟨b,0,none⟩:Addr)≠⟨b,1,none⟩:=by simp
 have n2:(⟨b,0,none⟩:Addr)≠⟨b,2,none⟩:=by simp
 have n3:(⟨b,1,none⟩:Addr)≠⟨b,2,none⟩:=by simp
 refine⟨?_,?_,?_,by simpa[go_sem] using hb,((chg_setCell (S:=fun i=>i=b) w b 0 x rfl).andThen (chg_setCell _ b 1 y rfl)).andThen (chg_setCell _ b 2 z rfl)⟩
 ·rw[World.cell?_setCell_other (h:=n2.symm),World.cell?_setCell_other (h:=n1.symm),World.cell?_setCell_same' _ _ _ h0]
 ·rw[World.cell?_setCell_other (h:=n3.symm),World.cell?_setCell_same' _ _ _ (by rw[World.cell?_setCell_other (h:=n1)];exact h1)]
 ·rw[World.cell?_setCell_same' _ _ _ (by rw[World.cell?_setCell_other (h:=n3),World.cell?_setCell_other (h:=n2)];exact h2)]
theorem takeI {E:Pe}{w:World}{i:Nat}{k:Tok}{us:List Tok}(f:PsI E w i (k::us))(hk:k.sym≠[]):Calls Tryz.prog 96 #[.pointer (some ⟨E.P,0,none⟩)] w fun e w'=>e=.returned (tkV (cvT k))∧Ps E w' us∧Ch E w w':=by
 have HP:Hid (∀W,Kept 0 0 w W→_):=fun W kk=>peekI (f.keep kk)
 have HF:Hid _:=f
 clear f
 go_enter Tryz.func96,Tryz.ntmps96
 go_upto_region 2 with (go_at_call 57;refine Calls.mono (HP.out _ (kept_alloc 0 0 w _)) ?_;rintro e w2 ⟨rfl,k2⟩;unfold tkV hdP)
 have HK:Hid (Kept 0 0 w w2):=(kept_alloc 0 0 w _).trans k2
 obtain⟨bc,bf,bs⟩:=box_at w w2 _ _ (k2.chg (S:=fun _=>False)) (fun c=>c)
 have b0:=bc 0
 have b1:=bc 1
 have b2:=bc 2
 have f0:=bf 0
 have f1:=bf 1
 have f2:=bf 2
 simp only[List.getElem?_toArray,List.getElem?_cons_zero,List.getElem?_cons_succ] at b0 b1 b2
 have hF:=HF.out.keep HK.out
 have c1:=hF.c1
 have z1:=hF.fz
 have hP:E.P<w2.heap.size:=Nat.lt_of_lt_of_le hF.PN hF.NW
 have hPw:E.P≠w.heap.size:=by have:=HF.out.PN;have:=HF.out.NW;omega
 have hi:i<4001:=by have:=HF.out.at.2;have:=HF.out.len;omega
 have HF2:Hid _:=hF
 clear hF bc bf k2
 generalize hbx:w.heap.size=bx at*
 go_wp2
 have HT:Hid _:=HF2.out.take hk
 have HC:Hid (Ch E w (w2.setCell ⟨E.P,1,none⟩ (.int .i64 ((i:Int)+1)))):=(HK.out.chg).andThen (chg_setCell _ _ _ _ rfl)
 have hs3:bx<(w2.setCell ⟨E.P,1,none⟩ (.int .i64 ((i:Int)+1))).heap.size:=by simpa[go_sem] using bs
 have hb3:=box3_set (w2.setCell ⟨E.P,1,none⟩ (.int .i64 ((i:Int)+1))) bx (.int .i64 (cvT k).kind) (strL (cvT k).text) (.int .i64 ((cvT k).at_:Int)) (by rw[cell_far hPw,b0];rfl) (by rw[cell_far hPw,b1];rfl) (by rw[cell_far hPw,b2];rfl) hs3
 generalize w2.setCell ⟨E.P,1,none⟩ (.int .i64 ((i:Int)+1))=w3 at HT HC hb3
 obtain⟨d0,d1,d2,hs4,hc⟩:=hb3
 generalize ((w3.setCell ⟨bx,0,none⟩ (.int .i64 (cvT k).kind)).setCell ⟨bx,1,none⟩ (strL (cvT k).text)).setCell ⟨bx,2,none⟩ (.int .i64 ((cvT k).at_:Int))=w4 at d0 d1 d2 hs4 hc
 clear b0 b1 b2 f0 f1 f2 c1 z1 bs hs3
 have ka:=(kept_alloc 0 0 w4 (.cells #[.int .i64 (cvT k).kind,strL (cvT k).text,.int .i64 ((cvT k).at_:Int)] 106)).chg (S:=fun i=>i=w4.heap.size)
 rw[←ka.cell (p:=⟨bx,0,none⟩) hs4 (Nat.ne_of_lt hs4)] at d0
 rw[←ka.cell (p:=⟨bx,1,none⟩) hs4 (Nat.ne_of_lt hs4)] at d1
 rw[←ka.cell (p:=⟨bx,2,none⟩) hs4 (Nat.ne_of_lt hs4)] at d2
 have hc2:=hc.new ka (fun b hb e=>by have:=hc.size;omega)
 generalize w4.alloc (.cells #[.int .i64 (cvT k).kind,strL (cvT k).text,.int .i64 ((cvT k).at_:Int)] 106)=w5 at d0 d1 d2 hc2
 refine bodyPost_ret (v:=tkV (cvT k)) (by simp[results,Tryz.results96,go_sem,tkV,d0,d1,d2]) rfl ?_
 exact⟨rfl,⟨_,HT.out.far hc2 (fun b e=>by have:=HF.out.NW;omega)⟩,HC.out.new hc2 (fun b hb e=>by omega)⟩
end Go.Proofs.YtgamjhpebmmjcaaGreatDoor
namespace Go.Proofs.YtgamjhpebmmjcaaGreatDoor
set_option maxRecDepth 100000
set_option maxHeartbeats 40000000
open Go.RowKit Flt
attribute [local go_sem] alloc_drewN setCell_drewN run_store_float
theorem cloneIb (w:World)(g n c:Nat)(xs:List Int)(hn2:n≤1000000)(h:IBk w g n xs):
  Calls Tryz.prog 41 #[.slice (some ⟨g,0,none⟩) n c] w fun e w'=>∃G cap,e=.returned (.slice (some ⟨G,0,none⟩) n cap)∧w.heap.size≤G∧G<w'.heap.size∧w'.ownsRow w.heap.size 3 1 (.slice (some ⟨G,0,none⟩) n cap) n (xs.map (Value.int .i64))∧Kept 0 0 w w':=by
 obtain⟨i0,hi,hz0,hz1,hz2⟩:=info_parts infoI
 have heq:(binOp .eql 32 (.slice (some ⟨g,0,none⟩) n c) (.slice none 0 0)).run Tryz.prog w=.ok (.bool false) w:=by
  simp only[binOp]
  simp[run_equal_slice_nil w 32 3 (some ⟨g,0,none⟩) n c Tryz.underlying32]
 have ka:=kept_alloc 0 0 w (.cells #[] 3)
 have hx:xs.length=n:=h.len
 have hc:∀k,k<n→w.cell? ⟨g,k,none⟩=some (.int .i64 (xs.getD k 0)):=h.at_
 have HN:Hid _:=newsI (w:=w.alloc (.cells #[] 3)) (g:=g) hx (fun k hk=>kcell ka h.lt (hc k hk))
 have HO:Hid _:=World.ownsRow_made (base:=w.heap.size) (e:=3) (size:=1) w #[] 0 (Nat.le_refl _) (by unfold maxLen;omega) rfl
 have HKA:Hid _:=ka
 have HX:Hid (xs.length=n):=hx
 clear hc hx ka h
 go_enter Tryz.func41,Tryz.ntmps41
 go_wp2_with (first|(at_builtin;refine wpList_append_own _ rfl _ _ 32 rfl w.heap.size 3 i0 (.int .i64 0) 1 8 Tryz.underlying32 hi hz0 hz1 hz2 rfl (by decide) _ _ _ rfl HO.out ⟨g,0,none⟩ n c (xs.map (Value.int .i64)) rfl ?c0 HN.out ?c2 ?c3 ?c4 ?c5 ?_))
 case c0=>exact HX.out
 case c2=>intro u hu;rfl
 case c3=>unfold maxLen;omega
 case c4=>omega
 intro v' w9 hown9 hg9 hnil
 obtain⟨G,cap,rfl,b1,b2⟩:=own_some hown9 hnil
 have R:Hid _:=grown_keptJ (base:=w.heap.size) hg9 (fun k hk=>by have:w.heap.size=k:=by simpa[Value.ownBlock] using hk
                                                                 omega) HKA.out (Nat.le_refl _)
 have R2:Hid _:=hown9
 clear hown9 hg9 hnil
 go_wp2
 go_ret
 exact⟨G,cap,rfl,b1,b2,R2.out,R.out⟩
theorem copyGraphE (w:World)(g2 g3 n2 c2 n3 c3:Nat)(vs:List Vl)(outs:List Int)(fv:VA w g2 n2 vs)(fo:IBk w g3 n3 outs)(l2:n2≤2000)(l3:n3≤1000000):
  Calls Tryz.prog 39 #[gagg none 0 0 (some ⟨g2,0,none⟩) n2 c2 (some ⟨g3,0,none⟩) n3 c3] w fun e w'=>∃G1 G2 d2 G3 d3,e=.returned (gagg none 0 0 (some ⟨G2,0,none⟩) n2 d2 (some ⟨G3,0,none⟩) n3 d3)∧PG w' G1 G2 G3 0 n2 n3 [] vs outs∧(w.heap.size≤G1∧w.heap.size≤G2∧w.heap.size≤G3)∧Kept 0 0 w w':=by
 have k0:=kept_alloc 0 0 w (gbox none 0 0 (some ⟨g2,0,none⟩) n2 c2 (some ⟨g3,0,none⟩) n3 c3)
 have k0':=kept_alloc 0 0 (w.alloc (gbox none 0 0 (some ⟨g2,0,none⟩) n2 c2 (some ⟨g3,0,none⟩) n3 c3)) nbox
 have HB:Hid _:=(g0_start w (.slice none 0 0) (.slice (some ⟨g2,0,none⟩) n2 c2) (.slice (some ⟨g3,0,none⟩) n3 c3)).keep k0'
 have hz:(w.alloc (gbox none 0 0 (some ⟨g2,0,none⟩) n2 c2 (some ⟨g3,0,none⟩) n3 c3)).heap.size=w.heap.size+1:=by simp
 have hR:=rb_start (w.alloc (gbox none 0 0 (some ⟨g2,0,none⟩) n2 c2 (some ⟨g3,0,none⟩) n3 c3))
 rw[hz] at hR
 have HR:Hid _:=hR
 have HK:Hid _:=k0.trans k0'
 have HI2:Hid _:=fv.keep (k0.trans k0') (.inr (.inr (Nat.le_refl _)))
 have HI3:Hid _:=fo.keep (k0.trans k0') (.inr (.inr (Nat.le_refl _)))
 have HZ:Hid (((w.alloc (gbox none 0 0 (some ⟨g2,0,none⟩) n2 c2 (some ⟨g3,0,none⟩) n3 c3)).alloc nbox).heap.size=w.heap.size+1+1):=by show _=_;simp
 have HVL:Hid (vs.length=n2):=fv.len
 have HOL:Hid (outs.length=n3):=fo.len
 have HBx:Hid (∀w5,Kept 0 0 (w.alloc (gbox none 0 0 (some ⟨g2,0,none⟩) n2 c2 (some ⟨g3,0,none⟩) n3 c3)) w5→_):=fun w5 k=>box_at (S:=fun _=>False) w w5 _ _ k.chg (fun c=>c)
 have HK0':Hid _:=k0'
 clear fv fo k0 k0' hz hR
 obtain⟨_,q0,q1,q2⟩:=HB.out
 go_enter Tryz.func39,Tryz.ntmps39
 go_wp2_with fail
 generalize (w.alloc (gbox none 0 0 (some ⟨g2,0,none⟩) n2 c2 (some ⟨g3,0,none⟩) n3 c3)).alloc nbox=w1 at HB HR HK HI2 HI3 HZ HK0' q0 q1 q2 ⊢
 have hPR:w.heap.size≠w.heap.size+1:=by omega
 go_region_held3 (fun w'=>w'.cell? ⟨w.heap.size,0,none⟩=some (.slice none 0 0)∧w'.cell? ⟨w.heap.size,1,none⟩=some (.slice (some ⟨g2,0,none⟩) n2 c2)∧w'.cell? ⟨w.heap.size,2,none⟩=some (.slice (some ⟨g3,0,none⟩) n3 c3)) (first|go_keep|(simp only[cell3c _ _ _ _ _ _ _ hPR];exact⟨r0,r1,r2⟩))
  (first
   |(go_at_call 41;refine Calls.mono (cloneIb w3 g3 n3 c3 outs l3 (IBk.keep HI3.out kk2 (.inr (.inr (Nat.le_refl _))))) ?_;rintro e w4 ⟨G3,d3,rfl,b3,b3',o3,k3⟩;have kk3:=Kept.trans kk2 k3;obtain⟨_,r0,r1,r2⟩:=G0.keep HB.out kk3;obtain⟨_,j0,j1,j2,f0,f1,f2⟩:=RB.keep HR.out kk3)
   |(go_at_call 69;refine Calls.mono (cloneV w2 g2 n2 c2 vs (by omega) (VA.keep HI2.out kk1 (.inr (.inr (Nat.le_refl _))))) ?_;rintro e w3 ⟨G2,d2,rfl,b2,b2',o2,k2⟩;have kk2:=Kept.trans kk1 k2;obtain⟨_,t0,t1,t2⟩:=G0.keep HB.out kk2)
   |(go_at_call 41;refine Calls.mono (cloneNP (w1.drewN 1)) ?_;rintro e w2 ⟨rfl,k1⟩;have kk1:=Kept.trans (kept_drewN 0 0 w1 1) k1;obtain⟨_,s0,s1,s2⟩:=G0.keep HB.out kk1))
 have hz1:(w1.drewN 1).heap.size=w.heap.size+1+1:=HZ.out
 have hz2:(w1.drewN 1).heap.size≤w2.heap.size:=k1.size
 have hz3:w2.heap.size≤w3.heap.size:=k2.size
 have hz4:w3.heap.size≤w4.heap.size:=k3.size
 have H2:Hid (w4.ownsRow w.heap.size 87 6 (.slice (some ⟨G2,0,none⟩) n2 d2) n2 (flat vs)):=own_mono (own_keepJ o2 k3) (by omega)
 have H3:Hid (OI w4 w.heap.size G3 n3 d3 outs):=own_mono o3 (by omega)
 have HD:Hid (w.heap.size+1+1≤G2∧G2<G3∧G3<w4.heap.size):=⟨by omega,by omega,by omega⟩
 have HKB:Hid _:=HK0'.out.trans kk3
 have HK4:Hid _:=HK.out.trans kk3
 clear q0 q1 q2 s0 s1 s2 t0 t1 t2 r0 r1 r2 b2 b3 b2' b3' o2 o3 k1 k2 k3 kk1 kk2 kk3 hz1 hz2 hz3 hz4 HI2 HI3 HB
 go_wp2_with fail
 obtain⟨y0,y1,y2⟩:=put3_0 w4 (w.heap.size+1) _ _ _ j0 j1 j2 (.slice none 0 0) (.slice (some ⟨G2,0,none⟩) n2 d2) (.slice (some ⟨G3,0,none⟩) n3 d3)
 have kp:=put3_kept w4 (w.heap.size+1) (.slice none 0 0) (.slice (some ⟨G2,0,none⟩) n2 d2) (.slice (some ⟨G3,0,none⟩) n3 d3)
 have hB4:=HBx.out w4 HKB.out
 have o2:=own_keepR H2.out kp (fun g hg=>by
  have e:g=G2:=by simpa[Value.ownBlock] using hg.symm
  have:=HD.out;omega)
 have o3:=own_keepR H3.out kp (fun g hg=>by
  have e:g=G3:=by simpa[Value.ownBlock] using hg.symm
  have:=HD.out;omega)
 have hIz:IBk w4 w.heap.size 0 []:=⟨rfl,hB4.2.2,fun k hk=>by omega,hB4.2.1⟩
 refine bodyPost_ret (v:=gagg none 0 0 (some ⟨G2,0,none⟩) n2 d2 (some ⟨G3,0,none⟩) n3 d3) (by simp[results,Tryz.results39,go_sem,y0,y1,y2]) rfl ⟨w.heap.size,G2,d2,G3,d3,rfl,⟨hIz.keep kp (by omega),(own_va o2 HVL.out).1,own_ioS o3 HOL.out,by have:=HD.out;omega,by have:=HD.out;omega,by have:=HD.out;omega⟩,by have:=HD.out;omega,HK4.out.new kp (by omega)⟩
end Go.Proofs.YtgamjhpebmmjcaaGreatDoor
namespace Go.Proofs.YtgamjhpebmmjcaaGreatDoor
set_option maxRecDepth 100000
set_option maxHeartbeats 40000000
open Go.RowKit Flt
abbrev nilS:Value:=.slice none 0 0
def Rw (W:World)(M:Nat→Prop)(sl:Value)(vs:List Value):Prop:=W.ownsRow 0 167 1 sl vs.length vs∧∀b,sl.ownBlock=some b→M b
inductive Nd (W:World)(M:Nat→Prop):Value→Ex→Prop
 |num {k:Tok}:Nd W M (.iface 264 (.agg #[.int .i64 (k.pos:Int),nilS,.int .i64 (cvT k).kind,strL (cvT k).text,.int .i64 ((cvT k).at_:Int)])) (.num k)
 |name {k:Tok}:Nd W M (.iface 267 (.agg #[.int .i64 (k.pos:Int),nilS,.int .i64 (cvT k).kind,strL (cvT k).text,.int .i64 ((cvT k).at_:Int)])) (.name k)
 |neg {o:Tok} {e:Ex} {sl v:Value}:Rw W M sl [v]→Nd W M v e→Nd W M (.iface 261 (.agg #[.int .i64 (o.pos:Int),sl,.int .i64 6])) (.neg o e)
 |bin {o:Tok} {a b:Ex} {sl v u:Value}:Rw W M sl [v,u]→Nd W M v a→Nd W M u b→Nd W M (.iface 249 (.agg #[.int .i64 (o.pos:Int),sl,.int .i64 (opOf o.sym)])) (.bin o a b)
 |call {k:Tok} {es:List Ex} {sl:Value} {vs:List Value}:Rw W M sl vs→vs.length=es.length→(∀(j:Nat) (v:Value) (e:Ex),vs[j]? =some v→es[j]? =some e→Nd W M v e)→Nd W M (.iface 269 (.agg #[.int .i64 (k.pos:Int),sl,.int .i64 (cvT k).kind,strL (cvT k).text,.int .i64 ((cvT k).at_:Int)])) (.call k es)
 |exp {k:Tok} {e:Ex} {sl v:Value}:k.sym=kExp→Rw W M sl [v]→Nd W M v e→Nd W M (.iface 261 (.agg #[.int .i64 (k.pos:Int),sl,.int .i64 13])) (.key1 k e)
 |sum {k:Tok} {e:Ex} {sl v:Value}:k.sym=kSum→Rw W M sl [v]→Nd W M v e→Nd W M (.iface 272 (.agg #[.int .i64 (k.pos:Int),sl])) (.key1 k e)
 |max {k:Tok} {a b:Ex} {sl v u:Value}:k.sym=kMax→Rw W M sl [v,u]→Nd W M v a→Nd W M u b→Nd W M (.iface 249 (.agg #[.int .i64 (k.pos:Int),sl,.int .i64 7])) (.key2 k a b)
 |dot {k:Tok} {a b:Ex} {sl v:Value}:k.sym=kDot→Rw W M sl [v]→Nd W M v (.bin ⟨[42],k.pos,k.text⟩ a b)→Nd W M (.iface 272 (.agg #[.int .i64 (k.pos:Int),sl])) (.key2 k a b)
 |sel {k:Tok} {a b c:Ex} {sl v u x:Value}:k.sym=kSel→Rw W M sl [v,u,x]→Nd W M v a→Nd W M u b→Nd W M x c→Nd W M (.iface 249 (.agg #[.int .i64 (k.pos:Int),sl,.int .i64 8])) (.key3 k a b c)
 |fill {k n:Tok} {e:Ex} {sl v:Value}:k.sym=kFill→Rw W M sl [v]→Nd W M v e→Nd W M (.iface 274 (.agg #[.int .i64 (k.pos:Int),sl,.int .i64 (cvT n).kind,strL (cvT n).text,.int .i64 ((cvT n).at_:Int)])) (.keyN k e n)
 |pick {k n:Tok} {e:Ex} {sl v:Value}:k.sym=kPick→Rw W M sl [v]→Nd W M v e→Nd W M (.iface 276 (.agg #[.int .i64 (k.pos:Int),sl,.int .i64 (cvT n).kind,strL (cvT n).text,.int .i64 ((cvT n).at_:Int)])) (.keyN k e n)
 |put {k i n:Tok} {e:Ex} {sl v:Value}:Rw W M sl [v]→Nd W M v e→Nd W M (.iface 278 (.agg #[.int .i64 (k.pos:Int),sl,.int .i64 (cvT i).kind,strL (cvT i).text,.int .i64 ((cvT i).at_:Int),.int .i64 (cvT n).kind,strL (cvT n).text,.int .i64 ((cvT n).at_:Int)])) (.put k e i n)
 |grad {k x:Tok} {e:Ex} {sl v:Value}:Rw W M sl [v]→Nd W M v e→Nd W M (.iface 279 (.agg #[.int .i64 (k.pos:Int),sl,.int .i64 (cvT x).kind,strL (cvT x).text,.int .i64 ((cvT x).at_:Int)])) (.grad k e x)
 |jvp {k x:Tok} {e d:Ex} {sl v u:Value}:Rw W M sl [v,u]→Nd W M v e→Nd W M u d→Nd W M (.iface 280 (.agg #[.int .i64 (k.pos:Int),sl,.int .i64 (cvT x).kind,strL (cvT x).text,.int .i64 ((cvT x).at_:Int)])) (.jvp k e x d)
theorem Nd.iface {W:World}{M:Nat→Prop}{v:Value}{e:Ex}(f:Nd W M v e):∃T x,v=.iface T x:=by cases f<;>exact⟨_,_,rfl⟩
theorem Rw.chg {W W':World}{M:Nat→Prop}{sl:Value}{vs:List Value}{S:Nat→Prop}(f:Rw W M sl vs)(c:Chg S W W')(hS:∀b,S b→¬M b):Rw W' M sl vs:=by
 refine⟨⟨f.1.1,f.1.2.imp id ?_⟩,f.2⟩
 rintro⟨g,cap,cur,e1,b1,b2,b3⟩
 refine⟨g,cap,cur,e1,b1,?_,b3⟩
 have hg:g<W.heap.size:=by
  rcases Nat.lt_or_ge g W.heap.size with c|c
  ·exact c
  ·rw[Array.getElem?_eq_none c] at b2;cases b2
 rw[c.block g hg (fun h=>hS g h (f.2 g (by rw[e1];rfl)))]
 exact b2
theorem Rw.mono {W:World}{M M':Nat→Prop}{sl:Value}{vs:List Value}(f:Rw W M sl vs)(h:∀b,M b→M' b):Rw W M' sl vs:=⟨f.1,fun b e=>h b (f.2 b e)⟩
theorem Nd.mono {W:World}{M M':Nat→Prop}{v:Value}{e:Ex}(f:Nd W M v e)(h:∀b,M b→M' b):Nd W M' v e:=by
 induction f with
 |num=>exact .num
 |name=>exact .name
 |neg r _ ih=>exact .neg (r.mono h) ih
 |bin r _ _ i1 i2=>exact .bin (r.mono h) i1 i2
 |call r hl _ ih=>exact .call (r.mono h) hl ih
 |exp q r _ ih=>exact .exp q (r.mono h) ih
 |sum q r _ ih=>exact .sum q (r.mono h) ih
 |max q r _ _ i1 i2=>exact .max q (r.mono h) i1 i2
 |dot q r _ ih=>exact .dot q (r.mono h) ih
 |sel q r _ _ _ i1 i2 i3=>exact .sel q (r.mono h) i1 i2 i3
 |fill q r _ ih=>exact .fill q (r.mono h) ih
 |pick q r _ ih=>exact .pick q (r.mono h) ih
 |put r _ ih=>exact .put (r.mono h) ih
 |grad r _ ih=>exact .grad (r.mono h) ih
 |jvp r _ _ i1 i2=>exact .jvp (r.mono h) i1 i2
theorem Nd.chg {W W':World}{M:Nat→Prop}{v:Value}{e:Ex}{S:Nat→Prop}(f:Nd W M v e)(c:Chg S W W')(hS:∀b,S b→¬M b):Nd W' M v e:=by
 induction f with
 |num=>exact .num
 |name=>exact .name
 |neg r _ ih=>exact .neg (r.chg c hS) ih
 |bin r _ _ i1 i2=>exact .bin (r.chg c hS) i1 i2
 |call r hl _ ih=>exact .call (r.chg c hS) hl ih
 |exp h r _ ih=>exact .exp h (r.chg c hS) ih
 |sum h r _ ih=>exact .sum h (r.chg c hS) ih
 |max h r _ _ i1 i2=>exact .max h (r.chg c hS) i1 i2
 |dot h r _ ih=>exact .dot h (r.chg c hS) ih
 |sel h r _ _ _ i1 i2 i3=>exact .sel h (r.chg c hS) i1 i2 i3
 |fill h r _ ih=>exact .fill h (r.chg c hS) ih
 |pick h r _ ih=>exact .pick h (r.chg c hS) ih
 |put r _ ih=>exact .put (r.chg c hS) ih
 |grad r _ ih=>exact .grad (r.chg c hS) ih
 |jvp r _ _ i1 i2=>exact .jvp (r.chg c hS) i1 i2
theorem Ps.nw {E:Pe}{W:World}{ts:List Tok}(f:Ps E W ts):E.P<W.heap.size∧E.N≤W.heap.size:=by
 obtain⟨i,h⟩:=f
 exact⟨Nat.lt_of_lt_of_le h.PN h.NW,h.NW⟩
abbrev Fr (n:Nat)(b:Nat):Prop:=n≤b
theorem Nd.ch {E:Pe}{W W':World}{v:Value}{e:Ex}{n:Nat}(f:Nd W (Fr n) v e)(c:Ch E W W')(h:E.P<n):Nd W' (Fr n) v e:=f.chg c (fun b e q=>by have q:n≤b:=q;omega)
theorem Nd.keep {W W':World}{M:Nat→Prop}{v:Value}{e:Ex}(f:Nd W M v e)(k:Kept 0 0 W W'):Nd W' M v e:=f.chg (k.chg (S:=fun _=>False)) (fun _ h=>h.elim)
theorem Rw.keep {W W':World}{M:Nat→Prop}{sl:Value}{vs:List Value}(f:Rw W M sl vs)(k:Kept 0 0 W W'):Rw W' M sl vs:=f.chg (k.chg (S:=fun _=>False)) (fun _ h=>h.elim)
theorem Nd.fr {W:World}{v:Value}{e:Ex}{n m:Nat}(f:Nd W (Fr n) v e)(h:m≤n):Nd W (Fr m) v e:=f.mono (fun _ q=>Nat.le_trans h q)
theorem Rw.fr {W:World}{sl:Value}{vs:List Value}{n m:Nat}(f:Rw W (Fr n) sl vs)(h:m≤n):Rw W (Fr m) sl vs:=f.mono (fun _ q=>Nat.le_trans h q)
def Ot (E:Pe)(w:World)(ts:List Tok)(st:List (List UInt8))(G:List Tok→Value→World→Prop)(e:Ending)(w':World):Prop:=
 (∃us ws v,e=.returned v∧Hid (ts=us++ws)∧Hid (∀r,wrongM E.t.length ts (st++r)=wrongM E.t.length ws r)∧Ps E w' ws∧Ch E w w'∧G us v w')∨
 (∃p:Nat,e=Thr 2 p∧Hid (∀r,wrongM E.t.length ts (st++r)=(p:Int))∧Ch E w w')
def GN (w:World)(l:Nat)(us:List Tok)(v:Value)(w':World):Prop:=∃e,Pr l [e] us∧Nd w' (Fr w.heap.size) v e
def GT (s:List UInt8)(us:List Tok)(v:Value)(_:World):Prop:=∃k,us=[k]∧k.sym=s∧v=tkV (cvT k)
end Go.Proofs.YtgamjhpebmmjcaaGreatDoor
namespace Go.Proofs.YtgamjhpebmmjcaaGreatDoor
set_option maxRecDepth 100000
set_option maxHeartbeats 40000000
open Go.RowKit Flt
open Go.ChangeMaps (setBlock heap_setBlock_same heap_setBlock_other)
open Classical in
noncomputable def lkE:List MapEntry→List UInt8→Option Value
 |[],_=>none
 |e::r,s=>if e.key=strL s then some e.val else lkE r s
open Classical in
def KsE (es:List MapEntry):Prop:=∀e∈es,∃s,e.key=strL s
def Mp (w:World)(b:Nat)(F:List UInt8→Option Value):Prop:=∃es clock,w.heap[b]? =some (.map es clock)∧KsE es.toList∧∀s,lkE es.toList s=F s
theorem Mp.lt {w:World}{b:Nat}{F:List UInt8→Option Value}(h:Mp w b F):b<w.heap.size:=by
 obtain⟨es,clock,hb,_⟩:=h
 exact(Array.getElem?_eq_some_iff.1 hb).1
theorem Mp.same {w w':World}{b:Nat}{F:List UInt8→Option Value}(h:Mp w b F)(e:w'.heap[b]? =w.heap[b]?):Mp w' b F:=by
 obtain⟨es,clock,hb,h2⟩:=h
 exact⟨es,clock,e.trans hb,h2⟩
theorem Mp.new (w:World):Mp (w.alloc (.map #[] 0)) w.heap.size (fun _=>none):=⟨#[],0,(MapKept.heap_alloc w _).1,fun e he=>by simp at he,fun s=>rfl⟩
section
variable {P:Program} (w:World) {ops:Array Oper} {rest:List Oper} {o:Oper} {a:Act} {Q:Exit→Act→World→Prop}
end
end Go.Proofs.YtgamjhpebmmjcaaGreatDoor
namespace Go.Proofs.YtgamjhpebmmjcaaGreatDoor
set_option maxRecDepth 100000
set_option maxHeartbeats 40000000
open Go.RowKit
attribute [local go_sem] alloc_drewN setCell_drewN run_store_float fld0 fld1 fld2 mkF
theorem idleS (G C A:Nat)(w:World):CallsD Tryz.prog 30 #[.pointer (some ⟨G,0,none⟩),.pointer (some ⟨C,0,none⟩),.pointer (some ⟨A,0,none⟩)] .returning w fun e u' w'=>e=.returned (.tuple #[])∧u'=.returning∧w'=w:=by
 refine callsD_of_wpS Tryz.func30 rfl fun c₀ cs hu=>?_
 apply wpS_seq
 apply wpS_region
 simp[wpOpsS,go_sem,recoverD,hu,Tryz.ntmps30,Exit.thenS]
 refine wpS_of_wp ?_
 simp[Array.replicate]
 go_wp2_with fail
 cases c₀
 simp_all [bodyPostS,results,Tryz.results30]
structure R3 (W:World)(G C A:Nat)(x y z c a:Value):Prop where
 g0:W.cell? ⟨G,0,none⟩=some x
 g1:W.cell? ⟨G,1,none⟩=some y
 g2:W.cell? ⟨G,2,none⟩=some z
 c0:W.cell? ⟨C,0,none⟩=some c
 a0:W.cell? ⟨A,0,none⟩=some a
 f0:W.frozen? ⟨G,0,none⟩=false
 f1:W.frozen? ⟨G,1,none⟩=false
 f2:W.frozen? ⟨G,2,none⟩=false
 fc:W.frozen? ⟨C,0,none⟩=false
 fa:W.frozen? ⟨A,0,none⟩=false
 lG:G<W.heap.size
 lC:C<W.heap.size
 lA:A<W.heap.size
theorem R3.chg {S:Nat→Prop}{W W':World}{G C A:Nat}{x y z c a:Value}(h:R3 W G C A x y z c a)(k:Chg S W W')(hG:¬S G)(hC:¬S C)(hA:¬S A):R3 W' G C A x y z c a:=
 ⟨(k.cell (p:=⟨G,0,none⟩) h.lG hG).trans h.g0,(k.cell (p:=⟨G,1,none⟩) h.lG hG).trans h.g1,(k.cell (p:=⟨G,2,none⟩) h.lG hG).trans h.g2,(k.cell (p:=⟨C,0,none⟩) h.lC hC).trans h.c0,(k.cell (p:=⟨A,0,none⟩) h.lA hA).trans h.a0,(k.frozen (p:=⟨G,0,none⟩) h.lG hG).trans h.f0,(k.frozen (p:=⟨G,1,none⟩) h.lG hG).trans h.f1,(k.frozen (p:=⟨G,2,none⟩) h.lG hG).trans h.f2,(k.frozen (p:=⟨C,0,none⟩) h.lC hC).trans h.fc,(k.frozen (p:=⟨A,0,none⟩) h.lA hA).trans h.fa,Nat.lt_of_lt_of_le h.lG k.size,Nat.lt_of_lt_of_le h.lC k.size,Nat.lt_of_lt_of_le h.lA k.size⟩
abbrev p5 (W:World)(G C A:Nat)(x y z c a:Value):World:=((((W.setCell ⟨G,0,none⟩ x).setCell ⟨G,1,none⟩ y).setCell ⟨G,2,none⟩ z).setCell ⟨C,0,none⟩ c).setCell ⟨A,0,none⟩ a
theorem R3.put {W:World}{G C A:Nat}{x y z c a:Value}(h:R3 W G C A x y z c a)(gc:G≠C)(ga:G≠A)(ca:C≠A)(x' y' z' c' a':Value):R3 (p5 W G C A x' y' z' c' a') G C A x' y' z' c' a':=by
 have n1:∀i j:Nat,(⟨G,i,none⟩:Addr)≠⟨C,j,none⟩:=fun i j e=>gc (by injection e)
 have n2:∀i j:Nat,(⟨G,i,none⟩:Addr)≠⟨A,j,none⟩:=fun i j e=>ga (by injection e)
 have n3:∀i j:Nat,(⟨C,i,none⟩:Addr)≠⟨A,j,none⟩:=fun i j e=>ca (by injection e)
 refine⟨?_,?_,?_,?_,?_,?_,?_,?_,?_,?_,?_,?_,?_⟩
 ·rw[World.cell?_setCell_other _ _ _ _ (n2 _ _).symm,World.cell?_setCell_other _ _ _ _ (n1 _ _).symm,World.cell?_setCell_other _ _ _ _ (by simp),World.cell?_setCell_other _ _ _ _ (by simp),World.cell?_setCell_same _ _ _ h.g0]
 ·rw[World.cell?_setCell_other _ _ _ _ (n2 _ _).symm,World.cell?_setCell_other _ _ _ _ (n1 _ _).symm,World.cell?_setCell_other _ _ _ _ (by simp),World.cell?_setCell_same _ _ _ ((World.cell?_setCell_other _ _ _ _ (by simp)).trans h.g1)]
 ·rw[World.cell?_setCell_other _ _ _ _ (n2 _ _).symm,World.cell?_setCell_other _ _ _ _ (n1 _ _).symm,World.cell?_setCell_same _ _ _ ((World.cell?_setCell_other _ _ _ _ (by simp)).trans ((World.cell?_setCell_other _ _ _ _ (by simp)).trans h.g2))]
 ·rw[World.cell?_setCell_other _ _ _ _ (n3 _ _).symm,World.cell?_setCell_same _ _ _ ((World.cell?_setCell_other _ _ _ _ (n1 _ _)).trans ((World.cell?_setCell_other _ _ _ _ (n1 _ _)).trans ((World.cell?_setCell_other _ _ _ _ (n1 _ _)).trans h.c0)))]
 ·rw[World.cell?_setCell_same _ _ _ ((World.cell?_setCell_other _ _ _ _ (n3 _ _)).trans ((World.cell?_setCell_other _ _ _ _ (n2 _ _)).trans ((World.cell?_setCell_other _ _ _ _ (n2 _ _)).trans ((World.cell?_setCell_other _ _ _ _ (n2 _ _)).trans h.a0))))]
 ·simp only[World.frozen?_setCell];exact h.f0
 ·simp only[World.frozen?_setCell];exact h.f1
 ·simp only[World.frozen?_setCell];exact h.f2
 ·simp only[World.frozen?_setCell];exact h.fc
 ·simp only[World.frozen?_setCell];exact h.fa
 ·simp;exact h.lG
 ·simp;exact h.lC
 ·simp;exact h.lA
theorem p5_chg (W:World)(G C A:Nat)(x y z c a:Value):Chg (fun b=>b=G∨b=C∨b=A) W (p5 W G C A x y z c a):=
 ((((chg_setCell W G 0 x (.inl rfl)).andThen (chg_setCell _ G 1 y (.inl rfl))).andThen (chg_setCell _ G 2 z (.inl rfl))).andThen (chg_setCell _ C 0 c (.inr (.inl rfl)))).andThen (chg_setCell _ A 0 a (.inr (.inr rfl)))
end Go.Proofs.YtgamjhpebmmjcaaGreatDoor
