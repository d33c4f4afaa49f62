import Derived.Test.YtchjpjmcnhjbcaaGreatDoorK5
import Derived.Test.YtchjpjmcnhjbcaaGreatDoorePS
import Derived.Shelf.SlIter.Nil
import Derived.Shelf.SlIterI.Nil
import Derived.Shelf.SortM.Plain
import Derived.Shelf.SortM.SortNone
import Derived.Ground.GgzProg
import Derived.Ground.SlgmProg
import Derived.RangeFuncNested
import Derived.RangeFuncBound
import Derived.RangeFuncCalls
import Derived.RangeFuncLeaves
import Derived.Shelf.Abstract
import Derived.Shelf.AbstractIn
import Derived.Shelf.RegionOpen
import Derived.OwnWalkIn
import Derived.TacticsInMore
import Derived.LoopNIn
import Derived.LoopIn
set_option linter.unusedVariables false
set_option maxRecDepth 100000
set_option maxHeartbeats 8000000
namespace Go.Proofs.YtchjpjmcnhjbcaaGreatDoor
open Go.RowKit Go.Maps
variable {W c:Int} {t:BY} {ts:LB} {f l:List (ByteArray×Value)}
def XA (c:Int) (t:BY):BY:=J3 (O8 c t.data.toList)
def hC (t:BY):Int:=((t.data.toList.headD 0).toNat:Int) - 48
def hT (t:BY):BY:=J3 (t.data.toList.drop 2)
def hV (t:BY):Value:=.agg #[.string t,.int .i64 (hC t),.string (hT t)]
def gT (W:Int) (t:BY):BY×Value:=(Z5 t W,hV t)
theorem MZ {a b:BY} (h:hV a=hV b):a=b:=by
 unfold hV at h;simp at h;exact h.1
theorem DF (l:List UInt8):(J3 l).data.toList=l:=by simp [J3]
theorem xJ {l:List UInt8} {u:List UInt8} (h:fD l c u true):hC (J3 l)=c/\hT (J3 l)=J3 u:=by
 obtain ⟨hv,rfl⟩:=h.1 rfl;have:=zh hv;unfold hC hT;rw [DF];refine ⟨?_,rfl⟩;simp only [kJ,YC];omega
theorem yD (h:vr c t.data.toList=true):fD (XA c t).data.toList c t.data.toList true:=by
 refine ⟨fun _=>⟨h,?_⟩,(fun h=>by cases h)⟩;unfold XA;rw [DF];unfold O8;rw [X7 h]
theorem a0z (h:vr c t.data.toList=true):hV (XA c t)=.agg #[.string (XA c t),.int .i64 c,.string t]:=by
 obtain ⟨h1,h2⟩:=xJ (yD h);rw [bn] at h1 h2;unfold hV;rw [h1,h2,bn]
def Xl (W:Int) (t:BY):LB->LB
 | []=>[t]
 | y::r=>if Zq (Z5 t W) (Z5 y W) then t::y::r else y::Xl W t r
theorem Sz (W:Int) (t:BY) (ts:LB):(Xl W t ts).map (gT W)=yg (gT W t) (ts.map (gT W)):=by
 induction ts with
 | nil=>rfl
 | cons y r ih=>
  unfold Xl;show _=if Zq (Z5 t W) (Z5 y W)=true then _ else _;split
  · rfl
  · simp [ih]
def Eb (W:Int) (t:BY) (ts:LB):LB×Bool:=
 match ts.find? (fun y=>decide (Z5 y W=Z5 t W)) with
 | some y=>(ts,decide (y=t))
 | none=>(Xl W t ts,true)
def Y7 (W:Int):LB->LB×Bool->LB×Bool
 | [],s=>s
 | t::r,s=>Y7 W r ((Eb W t s.1).1,s.2&&(Eb W t s.1).2)
theorem qm (W:Int) (a b:LB) (s:LB×Bool):Y7 W (a++b) s=Y7 W b (Y7 W a s):=by
 induction a generalizing s with
 | nil=>rfl
 | cons t r ih=>exact ih _
theorem LM (W:Int) (a:LB) (ts:LB):(Y7 W a (ts,false)).2=false:=by
 induction a generalizing ts with
 | nil=>rfl
 | cons t r ih=>exact ih _
def Wh (W:Int) (ts:LB):Prop:=Asc (ts.map (gT W))
theorem NG {y:BY} (hA:Wh W ts) (a:y∈ts) (b:Z5 y W=Z5 t W):ts.find? (fun y=>decide (Z5 y W=Z5 t W))=some y:=by
 cases hq:ts.find? (fun y=>decide (Z5 y W=Z5 t W)) with
 | none=>exact absurd (by simpa using b) (Pz.1 hq y a)
 | some z=>
  have h1:=DT hq;have h2:Z5 z W=Z5 t W:=by simpa using XH hq
  have e1:=Gn hA (sD (f:=gT W) a);have e:=Gn hA (sD (f:=gT W) h1);have d:=e1;have c:=e;rw [b] at d;rw [h2,d] at c;rw [MZ (w_ c)]
theorem tJ:ts.find? (fun y=>decide (Z5 y W=Z5 t W))=none↔T_ (ts.map (gT W)) (Z5 t W)=none:=by
 rw [Y_,Pz];constructor
 · intro h p b;obtain ⟨y,a,rfl⟩:=Pm.1 b;simpa [gT] using h y a
 · intro h y a;simpa [gT] using h _ (sD (f:=gT W) a)
theorem qH (hA:Wh W ts):Wh W (Eb W t ts).1:=by
 unfold Eb
 cases hq:ts.find? (fun y=>decide (Z5 y W=Z5 t W)) with
 | some y=>exact hA
 | none=>
  show Asc ((Xl W t ts).map (gT W));rw [Sz];exact Qr hA (fun p a=>Y_.1 (tJ.1 hq) p a)
theorem Oq {a:LB} {b:Bool} (hA:Wh W ts):Wh W (Y7 W a (ts,b)).1:=by
 induction a generalizing ts b with
 | nil=>exact hA
 | cons t r ih=>exact ih (qH hA)
structure Fr (W:Int) (l f:List (ByteArray×Value)) (ts:LB):Prop where
 asc:Wh W ts
 perm:(ts.map (gT W)).Perm (f++l)
 la:Asc l
 fa:Asc f
 dis:∀ p∈f,T_ l p.1=none
theorem Fr.start (h:Wh W ts):Fr W (ts.map (gT W)) [] ts:=⟨h,OD _,h,List.Pairwise.nil,X4⟩
theorem Fr.met (h:Fr W l f ts) {t:BY} {v:Value} (hv:T_ l (Z5 t W)=some v\/T_ f (Z5 t W)=some v):∃ y,v=hV y/\Eb W t ts=(ts,decide (y=t)):=by
 have hm:(Z5 t W,v)∈ts.map (gT W):=h.perm.mem_iff.2 (by
  rcases hv with hv | hv
  · exact List.mem_append_right _ (Hz hv)
  · exact QI _ (Hz hv))
 obtain ⟨y,a,e⟩:=Pm.1 hm;have e1:Z5 y W=Z5 t W:=U6 Prod.fst e;have b:hV y=v:=U6 Prod.snd e;refine ⟨y,b.symm,?_⟩;unfold Eb;rw [NG h.asc a e1]
theorem Fr.add (h:Fr W l f ts) {t:BY} (h1:T_ l (Z5 t W)=none) (h2:T_ f (Z5 t W)=none):Eb W t ts=(Xl W t ts,true)/\Fr W l (yg (gT W t) f) (Xl W t ts):=by
 have b:T_ (ts.map (gT W)) (Z5 t W)=none:=Y_.2 (fun p a=>by
  rcases Yg.1 (h.perm.mem_iff.1 a) with a | a
  · exact Y_.1 h2 p a
  · exact Y_.1 h1 p a)
 have e:Eb W t ts=(Xl W t ts,true):=by unfold Eb;rw [tJ.2 b]
 refine ⟨e,?_,?_,h.la,Qr h.fa (fun p a=>Y_.1 h2 p a),fun p a=>?_⟩
 · have:=qH (t:=t) h.asc;rw [e] at this;exact this
 · rw [Sz];exact (Yc _ _).trans ((h.perm.cons _).trans ((Yc (gT W t) f).symm.append_right l))
 · rcases Jd.1 ((Yc _ _).mem_iff.1 a) with rfl | a
   · exact h1
   · exact h.dis p a
theorem Fr.done (h:Fr W l f ts):Lib.mergeD (mapD l) (mapD f)=mapD (ts.map (gT W))/\l.length+f.length=ts.length:=by
 obtain ⟨c,b,a⟩:=OI f l h.fa h.la h.dis;refine ⟨?_,?_⟩
 · rw [a,RY c h.asc (b.trans h.perm.symm)]
 · have:=h.perm.length_eq;simp at this;omega
def Jl (ls:List L4) (c:Int) (t:BY):LB:=(n_ ls++[(c,t)]).map fun r=>XA r.1 r.2
def Vm (W:Int) (x:L4):G3:=⟨x.has,x.nm,Z5 (zn x) W⟩
def qh (W:Int) (m:M3) (ls:List L4) (c:Int) (t:BY):R3:=⟨d_ m,ls.map (Vm W),Z5 (XA c t) W⟩
def st0:St:=⟨0,[],[]⟩
open Classical in
noncomputable def Hf (rs:List R3) (x:R3):List R3:=if x∈rs then rs else rs++[x]
open Classical in
noncomputable def F_ (s:St) (m:M3) (ls:List L4) (c:Int) (t:BY):St×Int:=
 if ¬ Xg s then (st0,1) else if ¬ Zf m ls c t then (st0,2) else
 if (Y7 s.wd (Jl ls c t) (s.ts,true)).2=false then (st0,3) else
 if 300<(Y7 s.wd (Jl ls c t) (s.ts,true)).1.length\/150<(Hf s.rs (qh s.wd m ls c t)).length then (st0,4) else
 (⟨s.wd,(Y7 s.wd (Jl ls c t) (s.ts,true)).1,Hf s.rs (qh s.wd m ls c t)⟩,0)
theorem BJ:∀ (a b:List UInt8),Op.bytesLess a b=bytesBefore a b
 | [],[]=>by simp [Op.bytesLess,bytesBefore]
 | [],_::_=>by simp [Op.bytesLess,bytesBefore]
 | _::_,[]=>by simp [Op.bytesLess,bytesBefore]
 | x::r,y::s=>by
  have:=BJ r s;simp only [Op.bytesLess,bytesBefore];rw [this]
theorem Dl {s:St} (h:Xg s):Wh s.wd s.ts:=by
 obtain ⟨_,⟨_,h2⟩,_⟩:=h;have key:∀ (ts:LB),(∀ k,k<ts.length->k=0\/Zq (Z5 (ts.getD (k - 1) ByteArray.empty) s.wd) (Z5 (ts.getD k ByteArray.empty) s.wd)=true)->Wh s.wd ts:=by
  intro ts
  induction ts with
  | nil=>intro _;exact List.Pairwise.nil
  | cons y r ih=>
   intro h;have hr:Wh s.wd r:=ih (fun k b=>by
    by_cases h0:k=0
    · exact .inl h0
    · refine .inr ?_;have:=(h (k+1) U7).resolve_left O0;simp only [VI] at this;have e1:(y::r).getD (k+1) ByteArray.empty=r.getD k ByteArray.empty:=rfl;have d:(y::r).getD k ByteArray.empty=r.getD (k - 1) ByteArray.empty:=by
       obtain ⟨j,rfl⟩:∃ j,k=j+1:=⟨k - 1,O0⟩;rfl
      rw [e1,d] at this;exact this)
   refine Py.2 ⟨fun p a=>?_,hr⟩
   cases r with
   | nil=>cases a
   | cons z q=>
    have h1:=(h 1 X4).resolve_left O0;have c:Zq (Z5 y s.wd) (Z5 z s.wd)=true:=h1;rcases Jd.1 a with rfl | a
    · exact c
    · exact Az c ((Py.1 hr).1 p a)
 refine key s.ts fun k b=>?_;rcases (h2 k b).2 with h0 | h0
 · exact .inl h0
 · refine .inr ?_;rw [BJ] at h0;unfold Zq;rw [<- ByteArray.toList_eq,<- ByteArray.toList_eq];exact h0
end Go.Proofs.YtchjpjmcnhjbcaaGreatDoor
namespace Go.Proofs
open Go.Shelf
def Tryz.keysA_ren:Go.Shelf.Ren:=⟨fun | 7=>218 | 10=>261 | n => n, fun | 23=>209 | 26=>9 | 3=>217 | 28=>302 | 0=>0 | 27=>301 | 33=>98 | 4=>4 | n => n, fun | n=>n⟩
theorem Tryz.keysA:Go.Proofs.SlLaysZ.n7 prog Tryz.keysA_ren:={
 mixed:=Y2
 f7:=⟨Tryz.f218.name,o6,func218.trans (U6 some Y2)⟩
 f10:=⟨Tryz.f261.name,o6,func261.trans (U6 some Y2)⟩
 t0:=underlying0
 a0:=Tryz.isAgg0
 z0:=Tryz.sizeOf0
 v0:=Tryz.zeroValue0
 t4:=underlying4
 a4:=Tryz.isAgg4
 z4:=Tryz.sizeOf4
 v4:=Tryz.zeroValue4
 t23:=underlying209
 a23:=Tryz.isAgg209
 z23:=Tryz.sizeOf209
 v23:=Tryz.zeroValue209
 t26:=underlying9
 a26:=Tryz.isAgg9
 z26:=Tryz.sizeOf9
 v26:=Tryz.zeroValue9
 t27:=underlying301
 a27:=Tryz.isAgg301
 z27:=Tryz.sizeOf301
 v27:=Tryz.zeroValue301
 t28:=underlying302
 a28:=Tryz.isAgg302
 z28:=Tryz.sizeOf302
 v28:=Tryz.zeroValue302
 t33:=underlying98
 a33:=Tryz.isAgg98
 z33:=Tryz.sizeOf98
 v33:=Tryz.zeroValue98 }
def Tryz.sortedA_ren:Go.Shelf.Ren:=⟨fun | 6=>217 | 8=>259 | 9=>260 | 11=>284 | 13=>286 | 12=>285 | 23=>307 | 24=>308 | 14=>298 | 15=>299 | 16=>300 | 17=>301 | 18=>302 | 19=>303 | 20=>304 | 21=>305 | 22=>306 | 25=>322 | 26=>323 | 27=>324 | 28=>325 | 29=>326 | 30=>327 | 31=>336 | n => n, fun | 26=>9 | 28=>302 | 24=>22 | 0=>0 | 3=>3 | 37=>257 | 48=>325 | 50=>328 | 4=>4 | 40=>389 | 39=>388 | 45=>242 | 5=>5 | 9=>9 | 51=>404 | 55=>408 | 57=>420 | 58=>421 | 33=>98 | n => n, fun | n=>n⟩
theorem Tryz.sortedA:Go.Proofs.SlLaysZ.n6 prog Tryz.sortedA_ren:={
 mixed:=Y2
 f6:=⟨Tryz.f217.name,o6,func217.trans (U6 some Y2)⟩
 f8:=⟨Tryz.f259.name,o6,func259.trans (U6 some Y2)⟩
 f11:=⟨Tryz.f284.name,o6,func284.trans (U6 some Y2)⟩
 t0:=underlying0
 a0:=Tryz.isAgg0
 z0:=Tryz.sizeOf0
 v0:=Tryz.zeroValue0
 t24:=underlying22
 a24:=Tryz.isAgg22
 z24:=Tryz.sizeOf22
 v24:=Tryz.zeroValue22
 t26:=underlying9
 a26:=Tryz.isAgg9
 z26:=Tryz.sizeOf9
 v26:=Tryz.zeroValue9
 t28:=underlying302
 a28:=Tryz.isAgg302
 z28:=Tryz.sizeOf302
 v28:=Tryz.zeroValue302
 i26:=by kernel_rfl }
def Tryz.KL:Go.Shelf.Ren:=⟨fun | 6=>260 | 8=>286 | 9=>285 | 19=>307 | 20=>308 | 21=>298 | 22=>299 | 23=>300 | 24=>301 | 25=>302 | 26=>303 | 27=>304 | 28=>305 | 29=>306 | 36=>322 | 31=>323 | 32=>324 | 37=>325 | 38=>326 | 39=>327 | 41=>336 | n => n, fun | 27=>22 | 29=>9 | 3=>3 | 32=>257 | 26=>22 | 0=>0 | 44=>325 | 46=>328 | 4=>4 | 36=>389 | 35=>388 | 41=>242 | 5=>5 | 9=>9 | 53=>404 | 57=>408 | 63=>420 | 64=>421 | n => n, fun | n=>n⟩
theorem Tryz.sortA:Go.Proofs.SlLaysM.n6 prog Tryz.KL:={
 mixed:=Y2
 f6:=⟨Tryz.f260.name,o6,func260.trans (U6 some Y2)⟩
 f8:=func286.trans (U6 some Y2)
 f9:=⟨Tryz.f285.name,o6,func285.trans (U6 some Y2)⟩
 f19:=func307.trans (U6 some Y2)
 f20:=func308.trans (U6 some Y2)
 f21:=⟨Tryz.f298.name,o6,func298.trans (U6 some Y2)⟩
 f22:=⟨Tryz.f299.name,o6,func299.trans (U6 some Y2)⟩
 f23:=⟨Tryz.f300.name,o6,func300.trans (U6 some Y2)⟩
 f24:=⟨Tryz.f301.name,o6,func301.trans (U6 some Y2)⟩
 f25:=⟨Tryz.f302.name,o6,func302.trans (U6 some Y2)⟩
 f26:=⟨Tryz.f303.name,o6,func303.trans (U6 some Y2)⟩
 f27:=⟨Tryz.f304.name,o6,func304.trans (U6 some Y2)⟩
 f28:=⟨Tryz.f305.name,o6,func305.trans (U6 some Y2)⟩
 f29:=⟨Tryz.f306.name,o6,func306.trans (U6 some Y2)⟩
 f31:=func323.trans (U6 some Y2)
 f32:=func324.trans (U6 some Y2)
 f36:=⟨Tryz.f322.name,o6,func322.trans (U6 some Y2)⟩
 f37:=⟨Tryz.f325.name,o6,func325.trans (U6 some Y2)⟩
 f38:=⟨Tryz.f326.name,o6,func326.trans (U6 some Y2)⟩
 f39:=⟨Tryz.f327.name,o6,func327.trans (U6 some Y2)⟩
 f41:=⟨Tryz.f336.name,o6,func336.trans (U6 some Y2)⟩
 t0:=underlying0
 a0:=Tryz.isAgg0
 z0:=Tryz.sizeOf0
 v0:=Tryz.zeroValue0
 t3:=underlying3
 a3:=Tryz.isAgg3
 z3:=Tryz.sizeOf3
 v3:=Tryz.zeroValue3
 t4:=underlying4
 a4:=Tryz.isAgg4
 z4:=Tryz.sizeOf4
 v4:=Tryz.zeroValue4
 t5:=underlying5
 a5:=Tryz.isAgg5
 z5:=Tryz.sizeOf5
 v5:=Tryz.zeroValue5
 t9:=underlying9
 a9:=Tryz.isAgg9
 z9:=Tryz.sizeOf9
 v9:=Tryz.zeroValue9
 t26:=underlying22
 a26:=Tryz.isAgg22
 z26:=Tryz.sizeOf22
 v26:=Tryz.zeroValue22
 t27:=underlying22
 a27:=Tryz.isAgg22
 z27:=Tryz.sizeOf22
 v27:=Tryz.zeroValue22
 t29:=underlying9
 a29:=Tryz.isAgg9
 z29:=Tryz.sizeOf9
 v29:=Tryz.zeroValue9
 t32:=underlying257
 a32:=Tryz.isAgg257
 z32:=Tryz.sizeOf257
 v32:=Tryz.zeroValue257
 t35:=underlying388
 a35:=Tryz.isAgg388
 z35:=Tryz.sizeOf388
 v35:=Tryz.zeroValue388
 t36:=underlying389
 a36:=Tryz.isAgg389
 z36:=Tryz.sizeOf389
 v36:=Tryz.zeroValue389
 t41:=underlying242
 a41:=Tryz.isAgg242
 z41:=Tryz.sizeOf242
 v41:=Tryz.zeroValue242
 t44:=underlying325
 a44:=Tryz.isAgg325
 z44:=Tryz.sizeOf325
 v44:=Tryz.zeroValue325
 t46:=underlying328
 a46:=Tryz.isAgg328
 z46:=Tryz.sizeOf328
 v46:=Tryz.zeroValue328
 t53:=underlying404
 a53:=Tryz.isAgg404
 z53:=Tryz.sizeOf404
 v53:=Tryz.zeroValue404
 t57:=underlying408
 a57:=Tryz.isAgg408
 z57:=Tryz.sizeOf408
 v57:=Tryz.zeroValue408
 t63:=underlying420
 a63:=Tryz.isAgg420
 z63:=Tryz.sizeOf420
 v63:=Tryz.zeroValue420
 t64:=underlying421
 a64:=Tryz.isAgg421
 z64:=Tryz.sizeOf421
 v64:=Tryz.zeroValue421 }
def Tryz.keysB_ren:Go.Shelf.Ren:=⟨fun | 7=>221 | 10=>264 | n => n, fun | 23=>210 | 26=>3 | 3=>145 | 28=>306 | 0=>0 | 27=>305 | 33=>92 | 4=>4 | n => n, fun | n=>n⟩
theorem Tryz.keysB:Go.Proofs.SlLaysZI.n7 prog Tryz.keysB_ren:={
 mixed:=Y2
 f7:=⟨Tryz.f221.name,o6,func221.trans (U6 some Y2)⟩
 f10:=⟨Tryz.f264.name,o6,func264.trans (U6 some Y2)⟩
 t0:=underlying0
 a0:=Tryz.isAgg0
 z0:=Tryz.sizeOf0
 v0:=Tryz.zeroValue0
 t4:=underlying4
 a4:=Tryz.isAgg4
 z4:=Tryz.sizeOf4
 v4:=Tryz.zeroValue4
 t23:=underlying210
 a23:=Tryz.isAgg210
 z23:=Tryz.sizeOf210
 v23:=Tryz.zeroValue210
 t26:=underlying3
 a26:=Tryz.isAgg3
 z26:=Tryz.sizeOf3
 v26:=Tryz.zeroValue3
 t27:=underlying305
 a27:=Tryz.isAgg305
 z27:=Tryz.sizeOf305
 v27:=Tryz.zeroValue305
 t28:=underlying306
 a28:=Tryz.isAgg306
 z28:=Tryz.sizeOf306
 v28:=Tryz.zeroValue306
 t33:=underlying92
 a33:=Tryz.isAgg92
 z33:=Tryz.sizeOf92
 v33:=Tryz.zeroValue92 }
def Tryz.sortedB_ren:Go.Shelf.Ren:=⟨fun | 6=>220 | 8=>262 | 9=>263 | 11=>287 | 13=>286 | 12=>288 | 23=>307 | 24=>308 | 14=>309 | 15=>310 | 16=>311 | 17=>312 | 18=>313 | 19=>314 | 20=>315 | 21=>316 | 22=>317 | 25=>328 | 26=>323 | 27=>324 | 28=>329 | 29=>330 | 30=>331 | 31=>337 | n => n, fun | 26=>3 | 28=>306 | 24=>31 | 0=>0 | 3=>3 | 37=>257 | 48=>325 | 50=>328 | 4=>4 | 40=>389 | 39=>388 | 45=>242 | 5=>5 | 9=>9 | 51=>404 | 55=>408 | 57=>420 | 58=>421 | 33=>92 | n => n, fun | n=>n⟩
theorem Tryz.sortedB:Go.Proofs.SlLaysZI.n6 prog Tryz.sortedB_ren:={
 mixed:=Y2
 f6:=⟨Tryz.f220.name,o6,func220.trans (U6 some Y2)⟩
 f8:=⟨Tryz.f262.name,o6,func262.trans (U6 some Y2)⟩
 f11:=⟨Tryz.f287.name,o6,func287.trans (U6 some Y2)⟩
 t0:=underlying0
 a0:=Tryz.isAgg0
 z0:=Tryz.sizeOf0
 v0:=Tryz.zeroValue0
 t24:=underlying31
 a24:=Tryz.isAgg31
 z24:=Tryz.sizeOf31
 v24:=Tryz.zeroValue31
 t26:=underlying3
 a26:=Tryz.isAgg3
 z26:=Tryz.sizeOf3
 v26:=Tryz.zeroValue3
 t28:=underlying306
 a28:=Tryz.isAgg306
 z28:=Tryz.sizeOf306
 v28:=Tryz.zeroValue306
 i26:=by kernel_rfl }
def Tryz.BL:Go.Shelf.Ren:=⟨fun | 5=>263 | 8=>286 | 7=>288 | 19=>307 | 20=>308 | 10=>309 | 11=>310 | 12=>311 | 13=>312 | 14=>313 | 15=>314 | 16=>315 | 17=>316 | 18=>317 | 30=>328 | 31=>323 | 32=>324 | 33=>329 | 34=>330 | 35=>331 | 40=>337 | n => n, fun | 23=>31 | 25=>3 | 3=>3 | 32=>257 | 22=>31 | 0=>0 | 44=>325 | 46=>328 | 4=>4 | 36=>389 | 35=>388 | 41=>242 | 5=>5 | 9=>9 | 53=>404 | 57=>408 | 63=>420 | 64=>421 | n => n, fun | n=>n⟩
theorem Tryz.sortB:Go.Proofs.SlLaysM.n5 prog Tryz.BL:={
 mixed:=Y2
 f5:=⟨Tryz.f263.name,o6,func263.trans (U6 some Y2)⟩
 f7:=⟨Tryz.f288.name,o6,func288.trans (U6 some Y2)⟩
 f8:=func286.trans (U6 some Y2)
 f10:=⟨Tryz.f309.name,o6,func309.trans (U6 some Y2)⟩
 f11:=⟨Tryz.f310.name,o6,func310.trans (U6 some Y2)⟩
 f12:=⟨Tryz.f311.name,o6,func311.trans (U6 some Y2)⟩
 f13:=⟨Tryz.f312.name,o6,func312.trans (U6 some Y2)⟩
 f14:=⟨Tryz.f313.name,o6,func313.trans (U6 some Y2)⟩
 f15:=⟨Tryz.f314.name,o6,func314.trans (U6 some Y2)⟩
 f16:=⟨Tryz.f315.name,o6,func315.trans (U6 some Y2)⟩
 f17:=⟨Tryz.f316.name,o6,func316.trans (U6 some Y2)⟩
 f18:=⟨Tryz.f317.name,o6,func317.trans (U6 some Y2)⟩
 f19:=func307.trans (U6 some Y2)
 f20:=func308.trans (U6 some Y2)
 f30:=⟨Tryz.f328.name,o6,func328.trans (U6 some Y2)⟩
 f31:=func323.trans (U6 some Y2)
 f32:=func324.trans (U6 some Y2)
 f33:=⟨Tryz.f329.name,o6,func329.trans (U6 some Y2)⟩
 f34:=⟨Tryz.f330.name,o6,func330.trans (U6 some Y2)⟩
 f35:=⟨Tryz.f331.name,o6,func331.trans (U6 some Y2)⟩
 f40:=⟨Tryz.f337.name,o6,func337.trans (U6 some Y2)⟩
 t0:=underlying0
 a0:=Tryz.isAgg0
 z0:=Tryz.sizeOf0
 v0:=Tryz.zeroValue0
 t3:=underlying3
 a3:=Tryz.isAgg3
 z3:=Tryz.sizeOf3
 v3:=Tryz.zeroValue3
 t4:=underlying4
 a4:=Tryz.isAgg4
 z4:=Tryz.sizeOf4
 v4:=Tryz.zeroValue4
 t5:=underlying5
 a5:=Tryz.isAgg5
 z5:=Tryz.sizeOf5
 v5:=Tryz.zeroValue5
 t9:=underlying9
 a9:=Tryz.isAgg9
 z9:=Tryz.sizeOf9
 v9:=Tryz.zeroValue9
 t22:=underlying31
 a22:=Tryz.isAgg31
 z22:=Tryz.sizeOf31
 v22:=Tryz.zeroValue31
 t23:=underlying31
 a23:=Tryz.isAgg31
 z23:=Tryz.sizeOf31
 v23:=Tryz.zeroValue31
 t25:=underlying3
 a25:=Tryz.isAgg3
 z25:=Tryz.sizeOf3
 v25:=Tryz.zeroValue3
 t32:=underlying257
 a32:=Tryz.isAgg257
 z32:=Tryz.sizeOf257
 v32:=Tryz.zeroValue257
 t35:=underlying388
 a35:=Tryz.isAgg388
 z35:=Tryz.sizeOf388
 v35:=Tryz.zeroValue388
 t36:=underlying389
 a36:=Tryz.isAgg389
 z36:=Tryz.sizeOf389
 v36:=Tryz.zeroValue389
 t41:=underlying242
 a41:=Tryz.isAgg242
 z41:=Tryz.sizeOf242
 v41:=Tryz.zeroValue242
 t44:=underlying325
 a44:=Tryz.isAgg325
 z44:=Tryz.sizeOf325
 v44:=Tryz.zeroValue325
 t46:=underlying328
 a46:=Tryz.isAgg328
 z46:=Tryz.sizeOf328
 v46:=Tryz.zeroValue328
 t53:=underlying404
 a53:=Tryz.isAgg404
 z53:=Tryz.sizeOf404
 v53:=Tryz.zeroValue404
 t57:=underlying408
 a57:=Tryz.isAgg408
 z57:=Tryz.sizeOf408
 v57:=Tryz.zeroValue408
 t63:=underlying420
 a63:=Tryz.isAgg420
 z63:=Tryz.sizeOf420
 v63:=Tryz.zeroValue420
 t64:=underlying421
 a64:=Tryz.isAgg421
 z64:=Tryz.sizeOf421
 v64:=Tryz.zeroValue421 }
end Go.Proofs
namespace Go.Proofs.YtchjpjmcnhjbcaaGreatDoor
open Proofs.Tryz Go.RowKit Go.Maps Go.Sort Go.Shelf
variable {S X j n:Nat} {A B:World}
attribute [local go_sem] Oper.semAt_some
theorem rQ (s:BY):encStr s.data.toList=.string s:=by
 unfold encStr
 congr 1
theorem yF {k:Nat} (h:k<n):(List.finRange n).take (k+1)=(List.finRange n).take k++[⟨k,h⟩]:=by
 rw [Sr,Z8 (by simpa using h)];simp
def fB (W:World) (S j:Nat):Option Nat:=(W.cell? ⟨S,j,none⟩).bind Value.ownBlock
structure Jy (S j X:Nat) (W W':World):Prop where
 size:W.heap.size<=W'.heap.size
 same:∀ k o,W.heap[k]?=some o->(o.isCells=true\/o.isWalk=true)->(∀ cur fr,o≠.cells cur X fr)->k≠S->fB W S j≠some k->W'.heap[k]?=some o
 fld:fB W' S j=fB W S j\/∃ q,fB W' S j=some q/\W.heap.size<=q
theorem Jy.refl (S j X:Nat) (W:World):Jy S j X W W:=⟨v_ _,fun _ _ h _ _ _ _=>h,.inl rfl⟩
theorem Jy.trans {C:World} (h:Jy S j X A B) (k:Jy S j X B C):Jy S j X A C:=by
 refine ⟨G7 h.size k.size,fun i o ho hc b c hf=>?_,?_⟩
 · have hi:=(r_.1 ho).1;refine k.same i o (h.same i o ho hc b c hf) hc b c ?_;rcases h.fld with e | ⟨q,e,a⟩
   · rw [e];exact hf
   · rw [e];intro d;have:=w_ d;omega
 · rcases k.fld with e | ⟨q,e,a⟩
   · rw [e];exact h.fld
   · exact .inr ⟨q,e,G7 h.size a⟩
theorem Jy.cell (h:Jy S j X A B) (hf:fB A S j=none) {p:Addr} (a:p.block≠S) {t:TypeId} (hT:ng A p.block t) (ht:t≠X):B.cell? p=A.cell? p:=by
 obtain ⟨cur,fr,e⟩:=hT;have b:=h.same _ _ e (.inl rfl) (fun cur' fr' c=>by cases c;exact ht rfl) a (by rw [hf];simp);unfold World.cell?;rw [e,b]
theorem Jy.map (h:Jy S j X A B) (hf:fB A S j=none) {k:TypeId} {R:Value->Option (DataW Value×List MemPlace)} {b n:Nat} {D:DataW Value} (c:b≠S) (hm:A.ownsMap prog k R b n D):B.ownsMap prog k R b n D:=by
 obtain ⟨es,d,a,r⟩:=hm;exact ⟨es,d,h.same b _ a (.inr rfl) (fun _ _ e=>by cases e) c (by rw [hf];simp),r⟩
theorem jA {w:World} {B e:Nat} {va:OA} {b:Nat} {xs:List Value} (h:w.ownsRow B e 1 (.slice va n b) n xs):n=0\/∃ g,va=some ⟨g,0,none⟩/\B<=g/\g<w.heap.size/\ng w g e/\∀ k,k<n->w.cell? ⟨g,k,none⟩=some (xs.getD k undef):=by
 have c:=h;rcases h.2 with ⟨hv,h0⟩ | ⟨g,cap,cur,hv,d,a,_⟩
 · exact .inl h0
 · simp only [Vq] at hv;obtain ⟨rfl,_,rfl⟩:=hv;refine .inr ⟨g,rfl,d,(r_.1 a).1,⟨cur,(0,0),a⟩,fun k hk=>?_⟩;have hx:k<xs.length:=by have:=h.1;omega
   rw [c.cellAt k O0];simp only [List.getD,Z8 hx,qf]
theorem kV (l:List (ByteArray×Value)) {k:Nat} (h:k<l.length):(l.map fun p=>Value.string p.1).getD k undef=.string (l[k]'h).1:=by
 simp only [List.getD,Yr,Z8 h,xw,qf]
theorem xW (l:List Value) {k:Nat} (h:k<l.length):((List.range l.length).map fun i:Nat=>Value.int .i64 (i:Int)).getD k undef=.int .i64 (k:Int):=by
 simp only [List.getD,Yr,List.getElem?_range h,xw,qf]
theorem EY (m:Nat):AnyZ.SortsIn prog Tryz.sortedA_ren Fence.wide m:=
 ⟨fun blk off a ss W hH c b=>callsIn_wide.2 (AnyM.slices_Sort_string Tryz.sortA blk off a ss W hH c b),
  fun p a W=>callsIn_wide.2 (AnyM.slices_Sort_string_none Tryz.sortA p a W)⟩
theorem a3t (S j a b B:Nat) (l:List (ByteArray×Value)) (w:World) (hA:Asc l) (hks:∀ p∈l,p.1.size<=maxLen) (hl:l.length<=1000) (u:a<w.heap.size) (hm:w.cell? ⟨a,0,none⟩=some (.map (some b))) (s:w.ownsMap prog 9 Ja b B (mapD l)) (hTm:ng w a 209) (hSB:a≠S) (hSw:S<w.heap.size) (hbS:b≠S) (O:fB w S j=none):
 SeqStopsK Fence.wide 10 prog 216 #[.pointer (some ⟨a,0,none⟩)] (fun i:Fin l.length=>#[(l[i.1]'i.2).2]) (Jy S j 217) (fun xs=>xs=List.finRange l.length) (fun _=>True) l.length w:=fun L J Jx W f hJ hJx R h0=>by
 have I:=(f.cell (p:=⟨a,0,none⟩) u).trans hm;have q:=Qc s f s.lt;have K:fB W S j=none:=by unfold fB;rw [f.cell (p:=⟨S,j,none⟩) hSw];exact O
 have V:=O9 u f.size;have hbl:=q.lt;clear hm s O;have D:SeqGives Fence.wide 6 prog 261 #[.pointer (some ⟨W.heap.size,0,none⟩)] encStr (fun ss=>ss.Perm (strKeys (mapD l))) (Maps.size (mapD l)) (W.alloc (.cells #[.map (some b)] 209)):=
  AnyZ.keys_gives (ρ:=Tryz.keysA_ren) { Tryz.keysA with } Fence.wide _ trivial rfl O0 W.heap.size b B (mapD l) _ X4 X4 (q.alloc _)
 have Y:∀ n W,CallsIn Fence.wide 9 prog 218 #[.map n] W fun e w'=>e=.returned (.func (.func 261) #[] #[.pointer (some ⟨W.heap.size,0,none⟩)])/\w'=W.alloc (.cells #[.map n] 209):=fun n W=>AnyZ.keys_in Tryz.keysA Fence.wide 9 trivial rfl n W;have x:=AnyZ.sorted_in Tryz.sortedA Fence.wide 9 trivial trivial trivial trivial rfl O0 (EY _) (enters_of func260 Y2 rfl) 261 #[.pointer (some ⟨W.heap.size,0,none⟩)] trivial (enters_of func261 Y2 rfl) _ _ (by rw [Zb];unfold maxLen;omega) (by rw [Zb];omega) _ D;change CallsIn _ _ prog 217 _ _ _ at x;have X:CallsIn Fence.wide 9 prog 217 #[.func (.func 261) #[] #[.pointer (some ⟨W.heap.size,0,none⟩)]] (W.alloc (.cells #[.map (some b)] 209)) fun e w'=>∃ va m,e=.returned (vL va l.length m)/\Hid (w'.ownsRow (W.heap.size+1) 9 1 (vL va l.length m) l.length (l.map fun p=>Value.string p.1))/\Bw W w':=by
  refine x.mono ?_;rintro e w' ⟨v,ss,rfl,U,c,hnil,d⟩;have hlen:ss.length=l.length:=by rw [U.length_eq];rw [AB];simp
  rw [CG hA U] at c;rw [ru,show (encStr∘fun p:BY×Value=>p.1.data.toList)=fun p=>Value.string p.1 from funext fun p=>rQ p.1] at c;rw [hlen] at c;have E:=H9 c (base':=W.heap.size+1) X4;obtain ⟨va,m,rfl⟩:=I9 E;exact ⟨va,m,rfl,E,((Z4 _ W).alloc H8 _).trans (d.mono X4)⟩
 have hfK:Fence.wide.fn 218:=trivial;have hfS:Fence.wide.fn 217:=trivial;clear x D;refine callsIn_of_wp func216 rfl trivial ?_ rfl;simp only [ntmps216,fA,o_,Ee,Nat.reduceAdd,Nat.reduceSub,pz,yA,AA,uz,Ua,rf]
 gi_wp2_with (first
  | (gi_at_call 218;refine (Y _ _).mono ?_;rintro e w' ⟨rfl,rfl⟩)
  | (gi_at_call 217;refine X.mono ?_;rintro e y ⟨va,m,rfl,c,d⟩))
 clear Y X;have hJ1:=hJ [] W y none h0 (Bf d) (fun _ e=>by cases e);have hT1:=(hTm.below f u).below d V;have hm1:=(d.cell (p:=⟨a,0,none⟩) V).trans I;have H:=Qc q d hbl;have N:fB y S j=none:=by unfold fB;rw [d.cell (p:=⟨S,j,none⟩) (Nat.lt_of_lt_of_le hSw f.size)];exact K
 have P:=jA c.out;have hSW1:=O9 hSw f.size;have HO:=U0 H;have A:=U0 N;have HC:=U0 P;clear H N P c q K I
 gi_loopw [9] (fun i wr=>∃ k:Nat,k<=l.length/\i=vI k/\J ((List.finRange l.length).take k) wr/\Jy S j 217 y wr) (fun i _=>l.length - (Go.RowKit.intOf i).toNat)
 case atStart=>exact ⟨0,J4 _,rfl,hJ1,Jy.refl _ _ _ _⟩
 case round=>
  obtain ⟨k,hk,rfl,t,r⟩:=hrel;by_cases h:k<l.length
  · rcases HC.out with h0' | ⟨g,Z,hgW,hgw,hTg,hcell⟩
    · omega
    subst Z;have hgS:g≠S:=O0;have Q:=(r.cell A.out (p:=⟨g,k,none⟩) hgS hTg o6).trans (hcell k h);have hb3:=(r.cell A.out (p:=⟨a,0,none⟩) hSB hT1 o6).trans hm1;have F:=r.map A.out hbS HO.out;have o:=OH (k:=(l[k]'h).1) (z:=.agg #[vE,vO,vE]) F underlying209 Y2 (hks _ (Bj h));rw [Gn hA (k:=(l[k]'h).1) (v:=(l[k]'h).2) (Bj h)] at o;rw [qf] at o;rw [kV l h] at Q;obtain ⟨fn,tmps,assign,body,C,hR⟩:=R _ ⟨k,h⟩ wr t (by rw [B_,List.length_finRange];omega);dsimp only at C;clear R F;generalize hgk:(l[k]'h).1=kk at o Q;generalize hvk:(l[k]'h).2=vk at o C
    gi_wp2
    refine hR.mono ?_;rintro e W3 (⟨rfl,hJ3,hk3⟩ | ⟨rfl,hJx3⟩)
    · gi_wp2
      go_roundw
      case rel=>exact ⟨k+1,O0,by go_num,by rw [yF h];exact hJ3,r.trans hk3⟩
      case measure=>simp [Go.RowKit.intOf];omega
    · gi_wp2
      refine Y6 (results_none rfl _ _ _) rfl ?_;exact ⟨⟨_,rfl⟩,.inr ⟨_,trivial,hJx3⟩⟩
  · obtain rfl:k=l.length:=O0
    gi_wp2
    go_end0
    exact ⟨⟨_,rfl⟩,.inl ⟨_,rfl,by rw [l_ X4] at t;exact t⟩⟩
theorem a0b (m:Nat):AnyZI.SortsIn prog Tryz.sortedB_ren Fence.wide m:=
 ⟨fun blk off a ss W hH c b=>callsIn_wide.2 (AnyM.slices_Sort_int Tryz.sortB blk off a ss W hH c b),
  fun p a W=>callsIn_wide.2 (AnyM.slices_Sort_int_none Tryz.sortB p a W)⟩
theorem a3c (S j a b A:Nat) (l:List Value) (w:World) (hl:l.length<=1000) (t:a<w.heap.size) (hm:w.cell? ⟨a,0,none⟩=some (.map (some b))) (r:w.ownsMap prog 3 Ja b A (intD l)) (hTm:ng w a 210) (hSB:a≠S) (hSw:S<w.heap.size) (hbS:b≠S) (O:fB w S j=none):
 SeqStopsK Fence.wide 10 prog 219 #[.pointer (some ⟨a,0,none⟩)] (fun i:Fin l.length=>#[(l[i.1]'i.2)]) (Jy S j 145) (fun xs=>xs=List.finRange l.length) (fun _=>True) l.length w:=fun L J Jx W f hJ hJx Q h0=>by
 have I:=(f.cell (p:=⟨a,0,none⟩) t).trans hm;have o:=Qc r f r.lt;have K:fB W S j=none:=by unfold fB;rw [f.cell (p:=⟨S,j,none⟩) hSw];exact O
 have U:=O9 t f.size;have hbl:=o.lt;clear hm r O;have C:SeqGives Fence.wide 6 prog 264 #[.pointer (some ⟨W.heap.size,0,none⟩)] encZ (fun ss=>ss.Perm (intKeys (intD l))) (Maps.size (intD l)) (W.alloc (.cells #[.map (some b)] 210)):=
  AnyZI.keys_gives (ρ:=Tryz.keysB_ren) { Tryz.keysB with } Fence.wide _ trivial rfl O0 W.heap.size b A (intD l) _ X4 X4 (o.alloc _)
 have X:∀ n W,CallsIn Fence.wide 9 prog 221 #[.map n] W fun e w'=>e=.returned (.func (.func 264) #[] #[.pointer (some ⟨W.heap.size,0,none⟩)])/\w'=W.alloc (.cells #[.map n] 210):=fun n W=>AnyZI.keys_in Tryz.keysB Fence.wide 9 trivial rfl n W;have u:=AnyZI.sorted_in Tryz.sortedB Fence.wide 9 trivial trivial trivial trivial rfl O0 (a0b _) (enters_of func263 Y2 rfl) 264 #[.pointer (some ⟨W.heap.size,0,none⟩)] trivial (enters_of func264 Y2 rfl) _ _ (by rw [Rk];unfold maxLen;omega) (by rw [Rk];omega) _ C;change CallsIn _ _ prog 220 _ _ _ at u;have V:CallsIn Fence.wide 9 prog 220 #[.func (.func 264) #[] #[.pointer (some ⟨W.heap.size,0,none⟩)]] (W.alloc (.cells #[.map (some b)] 210)) fun e w'=>∃ va m,e=.returned (vL va l.length m)/\Hid (w'.ownsRow (W.heap.size+1) 3 1 (vL va l.length m) l.length ((List.range l.length).map fun i:Nat=>Value.int .i64 (i:Int)))/\Bw W w':=by
  refine u.mono ?_;rintro e w' ⟨v,ss,rfl,R,c,hnil,d⟩;have hlen:ss.length=l.length:=by rw [R.length_eq];rw [lC];simp
  rw [gG R] at c;rw [ru] at c;rw [hlen] at c;have D:=H9 c (base':=W.heap.size+1) X4;obtain ⟨va,m,rfl⟩:=I9 D;exact ⟨va,m,rfl,D,((Z4 _ W).alloc H8 _).trans (d.mono X4)⟩
 have hfK:Fence.wide.fn 221:=trivial;have hfS:Fence.wide.fn 220:=trivial;clear u C;refine callsIn_of_wp func219 rfl trivial ?_ rfl;simp only [ntmps219,fA,o_,Ee,Nat.reduceAdd,Nat.reduceSub,pz,yA,AA,uz,Ua,rf]
 gi_wp2_with (first
  | (gi_at_call 221;refine (X _ _).mono ?_;rintro e w' ⟨rfl,rfl⟩)
  | (gi_at_call 220;refine V.mono ?_;rintro e x ⟨va,m,rfl,c,d⟩))
 clear X V;have hJ1:=hJ [] W x none h0 (Bf d) (fun _ e=>by cases e);have hT1:=(hTm.below f t).below d U;have Z:=(d.cell (p:=⟨a,0,none⟩) U).trans I;have H:=Qc o d hbl;have N:fB x S j=none:=by unfold fB;rw [d.cell (p:=⟨S,j,none⟩) (Nat.lt_of_lt_of_le hSw f.size)];exact K
 have P:=jA c.out;have hSW1:=O9 hSw f.size;have HO:=U0 H;have y:=U0 N;have HC:=U0 P;clear H N P c o K I
 gi_loopw [9] (fun i wr=>∃ k:Nat,k<=l.length/\i=vI k/\J ((List.finRange l.length).take k) wr/\Jy S j 145 x wr) (fun i _=>l.length - (Go.RowKit.intOf i).toNat)
 case atStart=>exact ⟨0,J4 _,rfl,hJ1,Jy.refl _ _ _ _⟩
 case round=>
  obtain ⟨k,hk,rfl,s,q⟩:=hrel;by_cases h:k<l.length
  · rcases HC.out with h0' | ⟨g,Y,hgW,hgw,hTg,hcell⟩
    · omega
    subst Y;have hgS:g≠S:=O0;have hc3:=(q.cell y.out (p:=⟨g,k,none⟩) hgS hTg o6).trans (hcell k h);have hb3:=(q.cell y.out (p:=⟨a,0,none⟩) hSB hT1 o6).trans Z;have F:=q.map y.out hbS HO.out;have E:=FO (k:=k) (z:=.agg #[vE,vN,vE]) F underlying210 Y2 O0 h;rw [show l.getD k undef=l[k]'h from by simp only [List.getD,Z8 h,qf]] at E;rw [xW l h] at hc3;obtain ⟨fn,tmps,assign,body,B,hR⟩:=Q _ ⟨k,h⟩ wr s (by rw [B_,List.length_finRange];omega);dsimp only at B;clear Q F;generalize hvk:(l[k]'h)=vk at E B
    gi_wp2
    refine hR.mono ?_;rintro e W3 (⟨rfl,hJ3,hk3⟩ | ⟨rfl,hJx3⟩)
    · gi_wp2
      go_roundw
      case rel=>exact ⟨k+1,O0,by go_num,by rw [yF h];exact hJ3,q.trans hk3⟩
      case measure=>simp [Go.RowKit.intOf];omega
    · gi_wp2
      refine Y6 (results_none rfl _ _ _) rfl ?_;exact ⟨⟨_,rfl⟩,.inr ⟨_,trivial,hJx3⟩⟩
  · obtain rfl:k=l.length:=O0
    gi_wp2
    go_end0
    exact ⟨⟨_,rfl⟩,.inl ⟨_,rfl,by rw [l_ X4] at s;exact s⟩⟩
