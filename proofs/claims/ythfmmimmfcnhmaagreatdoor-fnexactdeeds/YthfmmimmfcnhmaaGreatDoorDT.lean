import Derived.Shelf.SlSortCmp.WholeK
import Derived.Ground.SlsfProg
import Derived.Test.YthfmmimmfcnhmaaGreatDoorDF
set_option linter.unusedVariables false
set_option maxHeartbeats 8000000
set_option maxRecDepth 100000
namespace Go.Proofs
open Go.Shelf
def Tryz.sortD_ren:Go.Shelf.Ren:=⟨fun | 6=>41 | 15=>64 | 14=>63 | 28=>98 | 29=>99 | 20=>90 | 21=>91 | 22=>92 | 23=>93 | 24=>94 | 25=>95 | 26=>96 | 27=>97 | 46=>122 | 47=>123 | 48=>124 | 49=>125 | 50=>126 | 57=>142 | n=>n,fun | 22=>26 | 24=>55 | 25=>83 | 3=>3 | 39=>120 | 0=>0 | 53=>165 | 55=>167 | 4=>4 | 46=>159 | 45=>158 | 50=>126 | 5=>5 | 9=>9 | 66=>189 | 70=>193 | 76=>223 | 77=>224 | n=>n,fun | n=>n⟩
theorem Tryz.sortD:Go.Proofs.SlLaysF0.n6 Tryz.prog Tryz.sortD_ren:={
  mixed:=by kernel_rfl
  f6:=⟨Tryz.f41.name,by decide,Tryz.func41.trans (congrArg some (by kernel_rfl))⟩
  f14:=⟨Tryz.f63.name,by decide,Tryz.func63.trans (congrArg some (by kernel_rfl))⟩
  f15:=Tryz.func64.trans (congrArg some (by kernel_rfl))
  f20:=⟨Tryz.f90.name,by decide,Tryz.func90.trans (congrArg some (by kernel_rfl))⟩
  f21:=⟨Tryz.f91.name,by decide,Tryz.func91.trans (congrArg some (by kernel_rfl))⟩
  f22:=⟨Tryz.f92.name,by decide,Tryz.func92.trans (congrArg some (by kernel_rfl))⟩
  f23:=⟨Tryz.f93.name,by decide,Tryz.func93.trans (congrArg some (by kernel_rfl))⟩
  f24:=⟨Tryz.f94.name,by decide,Tryz.func94.trans (congrArg some (by kernel_rfl))⟩
  f25:=⟨Tryz.f95.name,by decide,Tryz.func95.trans (congrArg some (by kernel_rfl))⟩
  f26:=⟨Tryz.f96.name,by decide,Tryz.func96.trans (congrArg some (by kernel_rfl))⟩
  f27:=⟨Tryz.f97.name,by decide,Tryz.func97.trans (congrArg some (by kernel_rfl))⟩
  f28:=Tryz.func98.trans (congrArg some (by kernel_rfl))
  f29:=Tryz.func99.trans (congrArg some (by kernel_rfl))
  f46:=⟨Tryz.f122.name,by decide,Tryz.func122.trans (congrArg some (by kernel_rfl))⟩
  f47:=Tryz.func123.trans (congrArg some (by kernel_rfl))
  f48:=Tryz.func124.trans (congrArg some (by kernel_rfl))
  f49:=⟨Tryz.f125.name,by decide,Tryz.func125.trans (congrArg some (by kernel_rfl))⟩
  f50:=⟨Tryz.f126.name,by decide,Tryz.func126.trans (congrArg some (by kernel_rfl))⟩
  f57:=⟨Tryz.f142.name,by decide,Tryz.func142.trans (congrArg some (by kernel_rfl))⟩
  t0:=Tryz.underlying0
  a0:=Tryz.isAgg0
  z0:=Tryz.sizeOf0
  v0:=Tryz.zeroValue0
  t3:=Tryz.underlying3
  a3:=Tryz.isAgg3
  z3:=Tryz.sizeOf3
  v3:=Tryz.zeroValue3
  t4:=Tryz.underlying4
  a4:=Tryz.isAgg4
  z4:=Tryz.sizeOf4
  v4:=Tryz.zeroValue4
  t5:=Tryz.underlying5
  a5:=Tryz.isAgg5
  z5:=Tryz.sizeOf5
  v5:=Tryz.zeroValue5
  t9:=Tryz.underlying9
  a9:=Tryz.isAgg9
  z9:=Tryz.sizeOf9
  v9:=Tryz.zeroValue9
  t22:=Tryz.underlying26
  a22:=Tryz.isAgg26
  z22:=Tryz.sizeOf26
  v22:=Tryz.zeroValue26
  t25:=Tryz.underlying83
  a25:=Tryz.isAgg83
  z25:=Tryz.sizeOf83
  v25:=Tryz.zeroValue83
  t39:=Tryz.underlying120
  a39:=Tryz.isAgg120
  z39:=Tryz.sizeOf120
  v39:=Tryz.zeroValue120
  t45:=Tryz.underlying158
  a45:=Tryz.isAgg158
  z45:=Tryz.sizeOf158
  v45:=Tryz.zeroValue158
  t46:=Tryz.underlying159
  a46:=Tryz.isAgg159
  z46:=Tryz.sizeOf159
  v46:=Tryz.zeroValue159
  t50:=Tryz.underlying126
  a50:=Tryz.isAgg126
  z50:=Tryz.sizeOf126
  v50:=Tryz.zeroValue126
  t53:=Tryz.underlying165
  a53:=Tryz.isAgg165
  z53:=Tryz.sizeOf165
  v53:=Tryz.zeroValue165
  t55:=Tryz.underlying167
  a55:=Tryz.isAgg167
  z55:=Tryz.sizeOf167
  v55:=Tryz.zeroValue167
  t66:=Tryz.underlying189
  a66:=Tryz.isAgg189
  z66:=Tryz.sizeOf189
  v66:=Tryz.zeroValue189
  t70:=Tryz.underlying193
  a70:=Tryz.isAgg193
  z70:=Tryz.sizeOf193
  v70:=Tryz.zeroValue193
  t76:=Tryz.underlying223
  a76:=Tryz.isAgg223
  z76:=Tryz.sizeOf223
  v76:=Tryz.zeroValue223
  t77:=Tryz.underlying224
  a77:=Tryz.isAgg224
  z77:=Tryz.sizeOf224
  v77:=Tryz.zeroValue224 }
end Go.Proofs
namespace Go.Proofs.YthfmmimmfcnhmaaGreatDoor
open Proofs.Tryz
open Go.RowKit
open G.T (lt cmpB cmpB_neg c43 lt_trans' lt_irrefl')
def isSl:Value->Bool
 | .slice _ _ _=>true
 | _=>false
theorem isSl_one {v:Value} (h:isSl v=true):∃ a n c,v=.slice a n c:=by
 cases v
 all_goals first | exact ⟨_,_,_,rfl⟩ | cases h
def nrm (x:De):De:=if isSl x.lv=true then x else dez
theorem nrm_sl (x:De):∃ a n c,(nrm x).lv=.slice a n c:=by
 unfold nrm
 split
 · exact isSl_one (by assumption)
 exact ⟨_,_,_,rfl⟩
theorem nrm_eq {x:De} (h:isSl x.lv=true):nrm x=x:=if_pos h
def encD (x:De):List Value:=(nrm x).vs
def cfD (x y:De):Int:=cmpB (nrm x).d.nm (nrm y).d.nm
theorem c42 (x y:De) (hx:∃ a n c,x.lv=.slice a n c) (hy:∃ a n c,y.lv=.slice a n c) (w:World):Calls prog 42 #[.agg x.vs.toArray,.agg y.vs.toArray] w fun e w'=>e=.returned (.int .i64 (cmpB x.d.nm y.d.nm))/\∃ os,w'=Sort.grow w os:=by
 obtain ⟨⟨n,md,⟨m1,m2,m3⟩,ls,⟨rc,rt⟩,wt⟩,lv⟩:=x
 obtain ⟨⟨n',md',⟨m1',m2',m3'⟩,ls',⟨rc',rt'⟩,wt'⟩,lv'⟩:=y
 obtain ⟨a,k,c,rfl⟩:=hx
 obtain ⟨a',k',c',rfl⟩:=hy
 have h43:=fun u=>c43 n n' u
 dsimp only
 generalize cmpB n n'=r at*
 go_enter func42,ntmps42
 simp only [De.vs]
 go_wp2_with fail
 refine (h43 _).mono ?_
 rintro e w1 ⟨rfl,hw⟩
 clear h43
 go_wp2
 go_ret
 exact ⟨rfl,_,by rw [Sort.alloc_eq_grow,Sort.alloc_eq_grow,Sort.grow_grow]⟩
theorem cmpL [Inhabited De] (blk off size:Nat) (w:World):CmpLays prog 42 #[] encD 8 cfD blk off size w:=fun _ _ _ _ x y=>(c42 (nrm x) (nrm y) (nrm_sl x) (nrm_sl y) _).mono fun _ _ ⟨he,os,hw⟩=>⟨he,0,os,by rw [hw];rfl⟩
theorem ltD (x y:De):ltOf cfD x y=lt (nrm x).d.nm (nrm y).d.nm:=by
 unfold ltOf cfD
 cases h:lt (nrm x).d.nm (nrm y).d.nm
 · exact decide_eq_false fun c=>by rw [(cmpB_neg _ _).1 c] at h;cases h
 exact decide_eq_true ((cmpB_neg _ _).2 h)
theorem swoD:Sort.SWO (ltOf cfD) where
 irrefl x:=by rw [ltD];exact lt_irrefl' _
 trans x y z h k:=by rw [ltD] at *;exact lt_trans' h k
 ntrans x y z h k:=by
  rw [ltD] at*
  cases hc:lt (nrm x).d.nm (nrm z).d.nm
  · rfl
  by_cases e:(nrm y).d.nm=(nrm z).d.nm
  · rw [e,hc] at h;cases h
  rw [lt_trans' hc (lt_tot e k)] at h;cases h
theorem nrm_vs (x:De):∀ v∈encD x,v.oneCell'=true:=by
 obtain ⟨a,n,c,e⟩:=nrm_sl x
 exact de_one _ (by rw [e];rfl)
theorem flat_de [Inhabited De] (xs:List De) (h:∀ x∈xs,isSl x.lv=true) (j:Nat) (hj:j<xs.length*8):(deC xs)[j]?=some ((Sort.flatK encD 8 xs.toArray)[j]!):=by
 have h1:j / 8<xs.length:=by omega
 have h2:j % 8<8:=Nat.mod_lt _ (by decide)
 rw [Sort.get_flatK _ _ _ _ (by simpa using hj)]
 have h3:=deC_get xs (j / 8) (j % 8) h1 h2
 rw [show j / 8*8+j % 8=j by omega] at h3
 rw [h3]
 have h4:xs.toArray[j / 8]! =xs[j / 8]:=by simp [h1]
 have h5:xs.getD (j / 8) dez=xs[j / 8]:=by simp [List.getD,List.getElem?_eq_getElem h1]
 rw [h4,h5,encD,nrm_eq (h _ (List.getElem_mem h1))]
 have h6:j % 8<(xs[j / 8]).vs.length:=by rw [de_len];exact h2
 rw [List.getElem?_eq_getElem h6]
 exact congrArg some (getElem!_pos (xs[j / 8]).vs (j % 8) h6).symm
theorem c41 (base g cap:Nat) (xs:List De) (w:World) (hr:w.ownsRow base 55 8 (.slice (some ⟨g,0,none⟩) xs.length cap) xs.length (deC xs)) (hs:∀ x∈xs,isSl x.lv=true) (hl:xs.length<=1000000):Calls prog 41 #[.slice (some ⟨g,0,none⟩) xs.length cap,.func (.func 42) #[] #[]] w fun e w'=>e=.returned (.tuple #[])/\∃ ys,ys.Perm xs/\(ys.Pairwise fun a b=>lt b.d.nm a.d.nm=false)/\w'.ownsRow base 55 8 (.slice (some ⟨g,0,none⟩) xs.length cap) ys.length (deC ys)/\w.grownBy w' (some g):=by
 haveI:Inhabited De:=⟨dez⟩
 have eg:∀ args w,(callFunc 42 args).run prog w=.ok (.enter 42 args) w:=enters_of func42 (by kernel_rfl) rfl
 obtain ⟨hbg,cur0,hg0⟩:=own_block hr (k:=g) rfl
 have hH:Sort.HoldsK encD 8 w g 0 xs.toArray:=fun j hj=>by
  have hj':j<xs.length*8:=by simpa using hj
  have h1:=hr.cells rfl j _ (flat_de xs hs j hj')
  refine ⟨by rw [Nat.zero_add];rw [M.adr_add,Nat.zero_add] at h1;exact h1,?_⟩
  simp [World.frozen?,hg0]
 have hcon:=AnyQ.slices_SortFunc Tryz.sortD 8 (fun _=>by kernel_rfl) (fun _=>by kernel_rfl) encD (fun _=>rfl) nrm_vs cfD swoD 42 #[] g 0 cap xs.toArray w eg (cmpL g 0 _ w) hH (blk_lt hg0) (by simp;omega)
 change Calls prog 41 _ _ _ at hcon
 rw [List.size_toArray] at hcon
 refine hcon.mono ?_
 rintro e w' ⟨rfl,d',n,os,⟨hsz,_,hpm⟩,hso,rfl⟩
 have hsz:d'.size=xs.length:=by simpa using hsz
 have hp:d'.toList.Perm xs:=by
  have:(d'.extract 0 xs.length).toList=d'.toList:=by rw [<- hsz];simp
  rw [this] at hpm
  simpa using hpm
 have hys:∀ y∈d'.toList,isSl y.lv=true:=fun y hy=>hs y (hp.mem_iff.1 hy)
 have hln:d'.toList.length=xs.length:=hp.length_eq
 refine ⟨rfl,d'.toList,hp,?_,?_,rfl,rfl,rfl,?_,?_⟩
 · rw [List.pairwise_iff_getElem]
   intro i j hi hj hij
   have:=hso i j (Nat.zero_le _) hij (by omega)
   rw [ltD] at this
   have e1:d'[i]! =d'.toList[i]:=by simp at hi;simp [hi]
   have e2:d'[j]! =d'.toList[j]:=by simp at hj;simp [hj]
   rw [e1,e2,nrm_eq (hys _ (List.getElem_mem hi)),nrm_eq (hys _ (List.getElem_mem hj))] at this
   exact this
 · rcases hr.2 with ⟨hv,_⟩ | ⟨g',cap',cur,hv,hbg',hgc,hnc,hcm,hcs,htk⟩
   · cases hv
   injection hv with e1 e2 e3
   subst e3
   obtain rfl:g=g':=by injection e1 with e1;injection e1
   refine ⟨deC_len _,.inr ⟨g,cap,Sort.putCells id 0 (Sort.flatK encD 8 d') cur,by rw [hln],hbg',?_,by omega,hcm,?_,?_⟩⟩
   · have hlt:=blk_lt hgc
     simp only [sortWorldK,Sort.grow,Sort.putRowK,Sort.putRow,Sort.mapBlock,Sort.ahead]
     rw [Array.getElem?_append_left (by simpa using hlt),Array.getElem?_modify,if_pos rfl,hgc]
     rfl
   · simp [Sort.putCells,hcs]
   apply List.ext_getElem?
   intro j
   rw [hln]
   by_cases hj:j<xs.length*8
   · rw [List.getElem?_take_of_lt hj,flat_de d'.toList hys j (by omega)]
     have hjc:j<cur.size:=by have:=Nat.mul_le_mul_right 8 hnc;omega
     have hq:j<d'.size*8:=by rw [hsz];exact hj
     simp [Sort.putCells,hjc,hq]
   rw [List.getElem?_eq_none (by rw [List.length_take];omega),List.getElem?_eq_none (by rw [deC_len];omega)]
 · simp only [sortWorldK,Sort.size_grow,Sort.putRowK,Sort.putRow,Sort.mapBlock,Sort.ahead,Array.size_modify]
   omega
 intro k hk hne
 simp only [sortWorldK,Sort.grow,Sort.putRowK,Sort.putRow,Sort.mapBlock,Sort.ahead]
 rw [Array.getElem?_append_left (by simpa using hk),Array.getElem?_modify,if_neg (fun e=>hne (congrArg some e.symm))]
